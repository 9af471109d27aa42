package script

import (
	"reflect"
	"testing"

	"mailsieve/api"
)

func TestTreeOfCommands(t *testing.T) {
	got, err := Parse(`require ["fileinto","variables"]; KEEP; fileinto "a"; redirect "b"; discard; set :upper "V" "w"; set "v" ""; stop;`)
	want := Tree{
		Requires: []string{"fileinto", "variables"},
		Commands: []Command{
			Act{Head{"keep", 34}, api.Keep, ""},
			Act{Head{"fileinto", 40}, api.FileInto, "a"},
			Act{Head{"redirect", 54}, api.Redirect, "b"},
			Discard{Head{"discard", 68}},
			Set{Head{"set", 77}, api.Upper, "v", "w"},
			Set{Head{"set", 97}, api.Plain, "v", ""},
			Stop{Head{"stop", 109}},
		},
	}
	if err != nil || !reflect.DeepEqual(got, want) {
		t.Errorf("got %+v, %v, want %+v", got, err, want)
	}
}

func TestTreeOfTests(t *testing.T) {
	got, err := Parse(`if allof(not true,size :under 1K){} elsif header :contains "a" ["b","c"]{stop;} else{}`)
	want := Tree{Commands: []Command{If{
		Head: Head{"if", 0},
		Arms: []Arm{
			{Test: AllOf{Group{Head{"allof", 3}, []Test{Not{Head{"not", 9}, Truth{Head{"true", 13}, true}}, Size{Head{"size", 18}, api.Under, 1024}}}}},
			{Test: Header{Match{Head{"header", 42}, api.Contains, false, []string{"a"}, []string{"b", "c"}}}, Block: []Command{Stop{Head{"stop", 73}}}},
		},
		HasElse: true,
	}}}
	if err != nil || !reflect.DeepEqual(got, want) {
		t.Errorf("got %+v, %v, want %+v", got, err, want)
	}
}

func TestTagsHaveTheNumbersOfAPI(t *testing.T) {
	const uses = `require ["envelope","variables"];`
	for test, want := range map[string]Match{
		`header "a" "b"`:                               {Tag: api.Is},
		`header :is "a" "b"`:                           {Tag: api.Is},
		`header :contains "a" "b"`:                     {Tag: api.Contains},
		`header :matches "a" "b"`:                      {Tag: api.Matches},
		`header :comparator "i;octet" "a" "b"`:         {Tag: api.Is, Octet: true},
		`header :comparator "i;ascii-casemap" "a" "b"`: {Tag: api.Is},
	} {
		tree, err := Parse(uses + "if " + test + "{}")
		if err != nil {
			t.Errorf("%q: %v", test, err)
			continue
		}
		got := tree.Commands[0].(If).Arms[0].Test.(Header)
		if got.Tag != want.Tag || got.Octet != want.Octet {
			t.Errorf("%q: tag %d, octet %v", test, got.Tag, got.Octet)
		}
	}
	for tag, want := range map[string]int{"": api.Plain, ":lower": api.Lower, ":upper": api.Upper, ":length": api.Length} {
		tree, err := Parse(uses + "set " + tag + ` "a" "b";`)
		if err != nil || tree.Commands[0].(Set).Tag != want {
			t.Errorf("set %s: %+v, %v", tag, tree, err)
		}
	}
	for tag, want := range map[string]int{":over": api.Over, ":under": api.Under} {
		tree, err := Parse("if size " + tag + " 1 {}")
		if err != nil || tree.Commands[0].(If).Arms[0].Test.(Size).Tag != want {
			t.Errorf("size %s: %+v, %v", tag, tree, err)
		}
	}
}
