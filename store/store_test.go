package store

import (
	"errors"
	"maps"
	"slices"
	"testing"

	"mailsieve/api"
)

var errNo = errors.New("no")

// shelf is a disk of files by names, on which nothing is ever lost.
type shelf map[string]string

func (s shelf) Read(name string) ([]byte, error)     { return []byte(s[name]), nil }
func (s shelf) Write(name string, data []byte) error { s[name] = string(data); return nil }
func (s shelf) Rename(string, string) error          { return errNo }
func (s shelf) Remove(name string) error             { delete(s, name); return nil }
func (s shelf) Names() ([]string, error)             { return slices.Sorted(maps.Keys(s)), nil }
func (s shelf) Sync() error                          { return nil }

func TestStepsAreDoneInTurn(t *testing.T) {
	done := ""
	step := func(name string, err error) func() error {
		return func() error { done += name; return err }
	}
	if err := inTurn(); err != nil {
		t.Error(err)
	}
	if err := inTurn(step("a", nil), step("b", nil)); err != nil || done != "ab" {
		t.Errorf("%v behind %q", err, done)
	}
	if err := inTurn(step("c", nil), step("d", errNo), step("e", api.ErrDown)); err != errNo || done != "abcd" {
		t.Errorf("%v behind %q", err, done)
	}
}

// A journal with a right sum that tells what Deliver would have declined asks for nothing: least of all for files that Recover must leave none of.
func TestJournalsOfNoDeliveries(t *testing.T) {
	keep := api.Action{Kind: api.Keep}
	for _, v := range []delivery{{id: "", acts: []api.Action{keep}}, {id: "../.x", acts: []api.Action{keep}}, {id: "m", acts: slices.Repeat([]api.Action{keep}, 7)}, {id: "m", acts: []api.Action{keep, {Kind: api.FileInto, Arg: ".."}}}, {id: "m", acts: []api.Action{keep, {Kind: 9}}}, {id: "m"}} {
		s := shelf{".j": v.journal(".j"), "inbox/m": "old"}
		if err := Recover(s); err != nil || !maps.Equal(s, shelf{"inbox/m": "old"}) {
			t.Errorf("%+v: %v, %q", v, err, s)
		}
	}
}

// Two journals can lie there if no Recover came ahead of a Deliver: the one that is behind is done behind the other.
func TestSeveralJournals(t *testing.T) {
	keep := []api.Action{{Kind: api.Keep}}
	s := shelf{".a": delivery{"m", keep, "first"}.journal(".a"), ".b": delivery{"m", keep, "second"}.journal(".b"), ".c": delivery{"n", keep, "third"}.journal(".c")}
	if err := Recover(s); err != nil || !maps.Equal(s, shelf{"inbox/m": "second", "inbox/n": "third"}) {
		t.Errorf("%v, %q", err, s)
	}
}
