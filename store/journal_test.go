package store

import (
	"slices"
	"strings"
	"testing"

	"mailsieve/api"
)

func TestSumsWrapAround(t *testing.T) {
	for text, want := range map[string]uint64{"": 0xcbf29ce484222325, "a": 0xaf63dc4c8601ec8c, "foobar": 0x85944171f73967e8} {
		if got := sum(text); got != want {
			t.Errorf("sum(%q) = %x, want %x", text, got, want)
		}
	}
	if sum("foo", "", "bar") != sum("foobar") || sum() != sum("") || sum("ab") == sum("ba") {
		t.Error("the parts are not summed one behind the other")
	}
}

func TestPartsAreFoundAgain(t *testing.T) {
	for _, parts := range [][]string{nil, {""}, {"", ""}, {"a"}, {"1:a", ":", "", "2:"}, {"\n", "\x00\xff", strings.Repeat("x", 100)}} {
		if got, ok := parted(joined(parts...)); !ok || !slices.Equal(got, parts) {
			t.Errorf("%q: %q, %v", parts, got, ok)
		}
	}
	for _, text := range []string{":", "a", "1", "1:", "2:a", "-1:a", "x:a", "1:ab", "0:0", "99999999999999999999:a", "9223372036854775807:a", "1 :a"} {
		if got, ok := parted(text); ok || got != nil {
			t.Errorf("%q: %q, %v", text, got, ok)
		}
	}
}

func TestDeliveriesAreToldByTheirJournals(t *testing.T) {
	for _, v := range []delivery{
		{id: "m", text: ""},
		{id: "m", text: "t", acts: []api.Action{{Kind: api.Keep}}},
		{id: "12345678", text: "1:\n2", acts: []api.Action{{Kind: api.Redirect, Arg: "a@b"}, {Kind: api.Reject, Arg: "\n:\xff"}, {Kind: api.FileInto, Arg: "x"}, {Kind: api.Keep, Arg: "y"}}},
	} {
		got, ok := told(".j", v.journal(".j"))
		if !ok || got.id != v.id || got.text != v.text || !slices.Equal(got.acts, v.acts) {
			t.Errorf("%+v: %+v, %v", v, got, ok)
		}
		if got, ok := told(".k", v.journal(".j")); ok {
			t.Errorf("%+v lies elsewhere: %+v", v, got)
		}
	}
}

func TestJournalsThatAreNone(t *testing.T) {
	bodies := []string{"", "m", joined("m"), joined("m", "t", "1"), joined("m", "t", "", "a"), joined("m", "t", "x", "a"), joined("m", "t", "1", "", "99999999999999999999", ""), joined("m", "t") + "x"}
	for _, body := range bodies {
		if got, ok := told(".j", sealed(".j", body)); ok {
			t.Errorf("%q: %+v", body, got)
		}
	}
}

func TestNoBeginningOfAJournalIsOne(t *testing.T) {
	for body, length := range map[string]string{"": "0 ", "abc": "3 ", "a\nb:c\n": "6 "} {
		if got := sealed(".j", body); !strings.HasPrefix(got, length) {
			t.Errorf("%q: %q", body, got)
		}
	}
	for _, text := range []string{"", "\n", "0:0:0:", delivery{id: "m"}.journal(".j")} {
		journal := delivery{id: "m", text: text, acts: []api.Action{{Kind: api.Keep}}}.journal(".j")
		for n := range len(journal) {
			if got, ok := told(".j", journal[:n]); ok {
				t.Errorf("%q: %+v", journal[:n], got)
			}
		}
	}
}

func TestNamesOfJournalsAreFree(t *testing.T) {
	var names []string
	for range 5 {
		name := journalName(names)
		if !strings.HasPrefix(name, ".") || slices.Contains(names, name) {
			t.Fatalf("%q, with %q", name, names)
		}
		names = append([]string{"a", name}, names...)
	}
}
