package mailsieve_test

import (
	"errors"
	"testing"

	"mailsieve/api"
	"mailsieve/mailsieve"
)

var parse = mailsieve.Parse

// bad is a text that is no script, and its fault.
type bad struct {
	text string
	e    api.Errno
	at   int
}

// good is a script, and how it is written.
type good struct{ text, want string }

func refuse(t *testing.T, list ...bad) {
	t.Helper()
	for _, b := range list {
		s, err := parse(b.text)
		var f *api.Fault
		if s != nil || !errors.As(err, &f) || f.Err != b.e || f.At != b.at {
			t.Errorf("Parse(%q) = %v, %v, want error %d at %d", b.text, s, err, b.e, b.at)
		}
	}
}

func accept(t *testing.T, list ...good) {
	t.Helper()
	for _, g := range list {
		s, err := parse(g.text)
		if s == nil || err != nil {
			t.Errorf("Parse(%q) = %v, %v, want a script", g.text, s, err)
		} else if got := s.Text(); got != g.want {
			t.Errorf("%q is written %q, want %q", g.text, got, g.want)
		}
	}
}
