package acts

import (
	"slices"
	"strings"
	"testing"

	"mailsieve/api"
)

func TestBoxes(t *testing.T) {
	for box, want := range map[string]bool{"": false, "a": true, "-": true, "_": true, "9": true, ".": false, "a.": true, ".a": false, "a/b": false, "a b": false, "é": false, "\x00": false,
		strings.Repeat("a", 16): true, strings.Repeat("a", 17): false, "a" + strings.Repeat(".", 15): true} {
		if IsBox(box) != want {
			t.Errorf("IsBox(%q) = %v", box, !want)
		}
	}
}

func TestAddresses(t *testing.T) {
	for address, want := range map[string]bool{"": false, "a@b": true, "a@": false, "@b": false, "@": false, "ab": false, "abc": false, "a@b@c": false, "a@@": false, "@a@": false, "a @b": false, "a@\nb": false, "é@é": true,
		strings.Repeat("a", 30) + "@b": true, strings.Repeat("a", 31) + "@b": false} {
		if IsAddress(address) != want {
			t.Errorf("IsAddress(%q) = %v", address, !want)
		}
	}
}

func TestList(t *testing.T) {
	var l List
	if got := l.All(true); got != nil {
		t.Errorf("discarded: %v", got)
	}
	if got := l.All(false); !slices.Equal(got, Kept()) {
		t.Errorf("met nothing: %v", got)
	}
	for _, a := range []struct {
		kind int
		arg  string
		want api.Errno
	}{
		{api.FileInto, "a", api.OK}, {api.FileInto, "/", api.ErrBox}, {api.Redirect, "a", api.ErrAddr}, {api.Reject, "no", api.ErrConflict}, {api.FileInto, "a", api.OK},
		{api.Keep, "", api.OK}, {api.Redirect, "a@b", api.OK}, {api.FileInto, "b", api.OK}, {api.FileInto, "c", api.OK}, {api.FileInto, "d", api.OK},
		{api.FileInto, "e", api.ErrActions}, {api.Reject, "no", api.ErrConflict}, {api.FileInto, "", api.ErrBox}, {api.Keep, "", api.OK},
	} {
		if got := l.Add(api.Action{Kind: a.kind, Arg: a.arg}); got != a.want {
			t.Errorf("Add(%d, %q) = %d, want %d", a.kind, a.arg, got, a.want)
		}
	}
	want := []api.Action{{Kind: api.FileInto, Arg: "a"}, {Kind: api.Keep}, {Kind: api.Redirect, Arg: "a@b"}, {Kind: api.FileInto, Arg: "b"}, {Kind: api.FileInto, Arg: "c"}, {Kind: api.FileInto, Arg: "d"}}
	for range 2 {
		got := l.All(true)
		if !slices.Equal(got, want) {
			t.Errorf("%v, want %v", got, want)
		}
		got[0].Kind = 9
	}
}
