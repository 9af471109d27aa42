package mailsieve_test

import (
	"errors"
	"reflect"
	"slices"
	"testing"

	"mailsieve/api"
	"mailsieve/mailsieve"
)

// done is instructions, and what comes of them for a message: the actions, how many were done; an error, if it is one, at a place.
type done struct {
	code  []api.Ins
	m     api.Message
	want  []api.Action
	count int
	e     api.Errno
	at    int
}

func ins(list ...api.Ins) []api.Ins { return list }

func push(n int) api.Ins { return api.Ins{Op: api.Push, N: n} }

func turn() api.Ins { return api.Ins{Op: api.Not} }

func jump(n int) api.Ins { return api.Ins{Op: api.Jump, N: n} }

func jumpIf(n int) api.Ins { return api.Ins{Op: api.JumpIf, N: n} }

func jumpNot(n int) api.Ins { return api.Ins{Op: api.JumpNot, N: n} }

func act(kind int, a ...string) api.Ins { return api.Ins{Op: api.Act, Tag: kind, A: a} }

func set(tag int, name, value string) api.Ins {
	return api.Ins{Op: api.Set, Tag: tag, A: []string{name}, B: []string{value}}
}

func discard() api.Ins { return api.Ins{Op: api.Discard} }

func stop() api.Ins { return api.Ins{Op: api.Stop} }

func size(tag, n int) api.Ins { return api.Ins{Op: api.Size, Tag: tag, N: n} }

func exists(a ...string) api.Ins { return api.Ins{Op: api.Exists, A: a} }

// asks is Fields, Envelope or Strings.
func asks(op, tag int, a, b []string) api.Ins { return api.Ins{Op: op, Tag: tag, A: a, B: b} }

func list(s ...string) []string { return s }

// copied is instructions that share no memory with those that were there.
func copied(code []api.Ins) []api.Ins {
	code = slices.Clone(code)
	for i := range code {
		code[i].A, code[i].B = slices.Clone(code[i].A), slices.Clone(code[i].B)
	}
	return code
}

// overwrite writes into instructions, and into all that is in them.
func overwrite(code []api.Ins) {
	for i := range code {
		for _, l := range [][]string{code[i].A[:cap(code[i].A)], code[i].B[:cap(code[i].B)]} {
			for k := range l {
				l[k] = "mine"
			}
		}
		code[i] = api.Ins{Op: api.Discard, N: -7, Tag: -7, At: -7}
	}
}

// exec does instructions twice, and asks what P2 says of all of them, and P18 of faults.
func exec(t *testing.T, variables bool, code []api.Ins, m api.Message) ([]api.Action, int, error) {
	t.Helper()
	own := copied(code)
	fields := slices.Clone(m.Headers)
	first, count, err := mailsieve.Exec(variables, own, m)
	if !reflect.DeepEqual(own, copied(code)) || !slices.Equal(fields, m.Headers) {
		t.Errorf("%+v with %+v: written into what was handed in: %+v, %+v", code, m, own, fields)
	}
	if first != nil && len(first) == 0 {
		t.Errorf("%+v: an empty list that is not nil", code)
	}
	got := slices.Clone(first)
	overwrite(own)
	if !slices.Equal(got, first) {
		t.Errorf("%+v: %v was %v ahead of writing into the instructions", code, first, got)
	}
	for i := range first[:cap(first)] {
		first[:cap(first)][i] = api.Action{Kind: 9, Arg: "mine"}
	}
	again, other, fault := mailsieve.Exec(variables, code, m)
	if !slices.Equal(again, got) || other != count || !sameFault(err, fault) {
		t.Errorf("%+v with %+v: %v, %d, %v, then %v, %d, %v", code, m, got, count, err, again, other, fault)
	}
	if err != nil && !slices.Equal(got, acts(kept())) {
		t.Errorf("%+v with %+v: with a fault the list is %v, not Keep alone", code, m, got)
	}
	return got, count, err
}

// does does instructions with variables.
func does(t *testing.T, rows ...done) {
	t.Helper()
	for i, d := range rows {
		got, count, err := exec(t, true, d.code, d.m)
		if d.e != api.OK {
			d.want = acts(kept())
		}
		if !slices.Equal(got, d.want) || count != d.count || !at(err, d.e, d.at) {
			t.Errorf("row %d: %+v with %+v: %v, %d, %v, want %v, %d, error %d at %d", i, d.code, d.m, got, count, err, d.want, d.count, d.e, d.at)
		}
	}
}

// at: is it this error at this place, or, if it is to be api.OK, none?
func at(err error, e api.Errno, place int) bool {
	if e == api.OK {
		return err == nil
	}
	var f *api.Fault
	return errors.As(err, &f) && errors.Is(err, e) && *f == (api.Fault{Err: e, At: place})
}

// wrong are instructions that cannot be done: each is put behind two others, with values to be taken, and ahead of one that must not be done.
func wrong(t *testing.T, list ...api.Ins) {
	t.Helper()
	for _, i := range list {
		does(t, done{code: ins(push(1), push(0), i, discard()), count: 3, e: api.ErrCode, at: 2})
	}
}

// pushes are instructions that push a value, of a message.
func pushes(t *testing.T, m api.Message, value int, list ...api.Ins) {
	t.Helper()
	for _, i := range list {
		row := done{code: ins(i, jumpIf(1), discard()), m: m, want: acts(kept()), count: 2}
		if value == 0 {
			row.want, row.count = nil, 3
		}
		does(t, row)
	}
}
