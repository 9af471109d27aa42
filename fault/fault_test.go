package fault

import (
	"errors"
	"testing"

	"mailsieve/api"
)

// caught throws something and catches it; again is what was thrown on.
func caught(thrown any) (f *api.Fault, again any) {
	defer func() { again = recover() }()
	func() {
		defer func() { f = Caught(recover()) }()
		if thrown != nil {
			panic(thrown)
		}
	}()
	return f, nil
}

func TestFaultsAreCaught(t *testing.T) {
	f, again := caught(At(api.ErrBox, 7))
	if f == nil || *f != (api.Fault{Err: api.ErrBox, At: 7}) || again != nil || !errors.Is(f, api.ErrBox) {
		t.Errorf("%v, %v", f, again)
	}
	if f, again := caught(nil); f != nil || again != nil {
		t.Errorf("nothing thrown: %v, %v", f, again)
	}
}

func TestWhatIsNoFaultIsThrownOn(t *testing.T) {
	for _, thrown := range []any{"x", 7, api.ErrBox, errors.New("x")} {
		if f, again := caught(thrown); f != nil || again != thrown {
			t.Errorf("%v: %v, %v", thrown, f, again)
		}
	}
}
