package mailsieve_test

import (
	"errors"
	"slices"
	"testing"

	"mailsieve/api"
	"mailsieve/mailsieve"
	"mailsieve/script"
)

// said is a script, a message, and what is to be done with it.
type said struct {
	text string
	m    api.Message
	want []api.Action
}

// fails is a script, a message, and the fault of its run: at a byte of this text.
type fails struct {
	text string
	m    api.Message
	e    api.Errno
	at   int
}

// fields is a message with these fields: a name, its value, a name ..
func fields(list ...string) api.Message {
	m := api.Message{From: "from@a", To: "to@b", Size: 100}
	for i := 0; i+1 < len(list); i += 2 {
		m.Headers = append(m.Headers, api.Header{Name: list[i], Value: list[i+1]})
	}
	return m
}

func acts(list ...api.Action) []api.Action { return list }

func kept() api.Action { return api.Action{Kind: api.Keep} }

func into(box string) api.Action { return api.Action{Kind: api.FileInto, Arg: box} }

func to(address string) api.Action { return api.Action{Kind: api.Redirect, Arg: address} }

func rejected(reason string) api.Action { return api.Action{Kind: api.Reject, Arg: reason} }

// run runs a script twice, and asks what P2 says of all runs, and P17 of its code.
func run(t *testing.T, text string, m api.Message) ([]api.Action, error) {
	t.Helper()
	s, err := parse(text)
	if err != nil {
		t.Fatalf("%q is no script: %v", text, err)
	}
	first, err := s.Run(m)
	if first != nil && len(first) == 0 {
		t.Errorf("%q: an empty list that is not nil", text)
	}
	got := slices.Clone(first)
	for i := range first[:cap(first)] {
		first[:cap(first)][i] = api.Action{Kind: 9, Arg: "mine"}
	}
	own := m
	own.Headers = slices.Clone(m.Headers)
	again, other := s.Run(own)
	if !slices.Equal(own.Headers, m.Headers) {
		t.Errorf("%q has written into the message: %+v was %+v", text, own.Headers, m.Headers)
	}
	if !slices.Equal(again, got) || !sameFault(err, other) {
		t.Errorf("%q says %v, %v, then %v, %v", text, got, err, again, other)
	}
	byCode(t, s, text, m, got, err)
	return got, err
}

// sameFault: no error twice, or the same at the same place.
func sameFault(a, b error) bool {
	var f, g *api.Fault
	if errors.As(a, &f) && errors.As(b, &g) {
		return *f == *g
	}
	return a == nil && b == nil
}

// byCode asks that a script's code, and its tree, say what it has said.
func byCode(t *testing.T, s *mailsieve.Script, text string, m api.Message, want []api.Action, fault error) {
	t.Helper()
	tree, err := script.Parse(text)
	if err != nil {
		t.Fatal(err)
	}
	if got, err := walk(tree, m); !slices.Equal(got, want) || !sameFault(err, fault) {
		t.Errorf("%q with %+v says %v, %v, its tree %v, %v", text, m, want, fault, got, err)
	}
	list := s.Code()
	got, done, err := exec(t, slices.Contains(tree.Requires, "variables"), list, m)
	if !slices.Equal(got, want) || !sameFault(err, fault) || done > len(list) || len(list) > 400 {
		t.Errorf("%q with %+v says %v, %v, its code %v, %v, %d of %d being done", text, m, want, fault, got, err, done, len(list))
	}
}

// says runs scripts with these words ahead of each.
func says(t *testing.T, ahead string, list ...said) {
	t.Helper()
	for _, s := range list {
		got, err := run(t, ahead+s.text, s.m)
		if err != nil || !slices.Equal(got, s.want) {
			t.Errorf("%q with %+v says %v, %v, want %v", s.text, s.m, got, err, s.want)
		}
	}
}

// faults runs scripts in which everything is required.
func faults(t *testing.T, list ...fails) {
	t.Helper()
	for _, s := range list {
		got, err := run(t, all+s.text, s.m)
		var f *api.Fault
		if !errors.As(err, &f) || f.Err != s.e || f.At != len(all)+s.at || !errors.Is(err, s.e) {
			t.Errorf("%q with %+v says %v, %v, want error %d at %d", s.text, s.m, got, err, s.e, len(all)+s.at)
		}
		if !slices.Equal(got, acts(kept())) {
			t.Errorf("%q with %+v: with a fault the list is %v, not Keep alone", s.text, s.m, got)
		}
	}
}

// holding are tests that hold, and tests that do not, of a message.
func holding(t *testing.T, m api.Message, want bool, tests ...string) {
	t.Helper()
	for _, test := range tests {
		got, err := run(t, all+"if "+test+" {discard;}", m)
		if err != nil || (got == nil) != want {
			t.Errorf("%s with %+v: %v, %v, want %v", test, m, got == nil, err, want)
		}
	}
}
