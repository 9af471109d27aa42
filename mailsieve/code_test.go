package mailsieve_test

import (
	"math/rand"
	"reflect"
	"slices"
	"strconv"
	"strings"
	"testing"

	"mailsieve/api"
	"mailsieve/mailsieve"
)

// coded is a script's code, of which P2 and P17 hold.
func coded(t *testing.T, text string) []api.Ins {
	t.Helper()
	s, err := parse(text)
	if err != nil {
		t.Fatalf("%q is no script: %v", text, err)
	}
	first := s.Code()
	if len(first) > 400 {
		t.Errorf("%q: %d instructions", text, len(first))
	}
	want, written := copied(first), s.Text()
	apart(t, text, first)
	overwrite(first[:cap(first)])
	if again := s.Code(); !reflect.DeepEqual(again, want) || s.Text() != written {
		t.Errorf("%q: the code was %+v, and is %+v when that is written into; its text %q was %q", text, want, again, s.Text(), written)
	}
	return want
}

// apart: no two lists of instructions share memory, and an empty one is nil.
func apart(t *testing.T, text string, code []api.Ins) {
	t.Helper()
	if code != nil && len(code) == 0 {
		t.Errorf("%q: empty code that is not nil", text)
	}
	var lists [][]string
	for _, i := range code {
		for _, l := range [][]string{i.A, i.B} {
			if l != nil && len(l) == 0 {
				t.Errorf("%q: an empty list that is not nil", text)
			}
			lists = append(lists, l[:cap(l)])
		}
	}
	for n, l := range lists {
		for k := range l {
			l[k] = strconv.Itoa(n)
		}
	}
	for n, l := range lists {
		for _, s := range l {
			if s != strconv.Itoa(n) {
				t.Fatalf("%q: lists %s and %d share memory", text, s, n)
			}
		}
	}
}

// ended is what every way through code comes to, whatever its tests say: behind the last instruction or at Stop, with as many values as the machine takes.
func ended(t *testing.T, text string, code []api.Ins) {
	t.Helper()
	values := map[int]int{0: 0} // by instruction, those that are there ahead of it
	reach := func(at, count int) {
		if before, known := values[at]; known && before != count || at > len(code) || count < 0 || count > 8 {
			t.Fatalf("%q: %+v: %d values at %d of %d, or %d", text, code, count, at, len(code), before)
		}
		values[at] = count
	}
	for at, i := range code {
		count, reached := values[at]
		if !reached {
			continue
		}
		switch i.Op {
		case api.Push, api.Fields, api.Envelope, api.Strings, api.Exists, api.Size:
			reach(at+1, count+1)
		case api.Not:
			reach(at+1, max(count, 1))
		case api.Act, api.Set, api.Discard:
			reach(at+1, count)
		case api.Jump:
			reach(at+1+i.N, count)
		case api.JumpIf, api.JumpNot:
			reach(at+1, count-1)
			reach(at+1+i.N, count-1)
		case api.Stop:
		default:
			t.Fatalf("%q: %+v", text, i)
		}
	}
}

// P17.

func TestCodeOfEveryCommandAndTest(t *testing.T) {
	m := fields("h", "Ab-cd", "X", "y", "x", "z")
	for _, test := range []string{`true`, `false`, `not true`, `not not false`, `allof(true)`, `allof(true,false,true)`, `anyof(false)`, `anyof(false,true,false)`, `allof(anyof(true,false),not anyof(false,false))`,
		`header "h" "ab-CD"`, `header :comparator "i;octet" "h" "ab-CD"`, `header :contains ["x","h"] ["-","q"]`, `header :matches "h" "*-*"`, `header :matches :comparator "i;octet" "h" "a*"`,
		`envelope "from" "from@a"`, `envelope :contains ["to","From"] "@"`, `envelope :matches :comparator "i;octet" "TO" "*@*"`, `string "a" ["b","A"]`, `string :contains ["a","b"] ""`, `string :matches "${v}" "?*"`,
		`exists "h"`, `exists ["h","x"]`, `exists ["h","y"]`, `size :over 99`, `size :over 100`, `size :under 100`, `size :under 101`} {
		for _, c := range []string{`keep;`, `discard;`, `stop;`, `fileinto "a${1}";`, `fileinto "/";`, `redirect "${2}@b";`, `redirect "a";`, `reject "${0}";`, `set "v" "${1}";`, `set :lower "V" "${0}";`, `set :upper "v" "x${0}";`, `set :length "v" "${0}";`,
			`if size :over 5 {fileinto "in";} else {fileinto "out";}`, ``} {
			for _, body := range []string{
				`if ` + test + ` {` + c + `} redirect "${v}@c";`,
				`if ` + test + ` {keep;} else {` + c + `} fileinto "z${v}";`,
				c + `if false {} elsif ` + test + ` {` + c + `} elsif true {redirect "a@b";} ` + c,
				`if ` + test + ` {if not ` + test + ` {discard;} else {` + c + ` stop;}} discard;`,
			} {
				sound(t, all+body, m)
				sound(t, all+body, api.Message{})
				ended(t, all+body, coded(t, all+body))
			}
		}
	}
}

func TestCodeTellsThePlacesOfCommands(t *testing.T) {
	text := all + ` keep; if true { fileinto "a"; } else {redirect "a@b";} # x
 reject "no"; set "a" "b"; discard; stop;`
	commands := []int{api.Act, api.Set, api.Discard, api.Stop}
	var at, want []int
	for _, i := range coded(t, text) {
		if slices.Contains(commands, i.Op) {
			at = append(at, i.At)
		}
	}
	for _, word := range []string{`keep;`, `fileinto "a"`, `redirect "a@b"`, `reject "no"`, `set "a"`, `discard;`, `stop;`} {
		want = append(want, strings.Index(text, word))
	}
	if !slices.Equal(at, want) {
		t.Errorf("commands at %v, want %v", at, want)
	}
}

func TestCodeOfNoScript(t *testing.T) {
	var none *mailsieve.Script
	for _, s := range []*mailsieve.Script{none, {}} {
		if got := s.Code(); got != nil || s.Text() != "" {
			t.Errorf("no script: %+v", got)
		}
	}
	if got := coded(t, " # nothing\n"); got != nil {
		t.Errorf("an empty script: %+v", got)
	}
	if got := coded(t, all); got != nil {
		t.Errorf("requires alone: %+v", got)
	}
}

// filled is a part of a script as often as 600 bytes allow it.
func filled(ahead, part, between, behind string) string {
	n := (600 - len(ahead) - len(behind) + len(between)) / (len(part) + len(between))
	return ahead + strings.Repeat(part+between, n-1) + part + behind
}

// TestCodeOfCrowdedScripts: scripts that ask for as many instructions as there may be.
func TestCodeOfCrowdedScripts(t *testing.T) {
	list := []string{
		filled(``, `keep;`, ``, ``),
		filled(``, `stop;`, ``, ``),
		filled(``, `if true{}`, ``, ``),
		filled(``, `if true{}else{}`, ``, ``),
		filled(``, `if true{keep;}else{keep;}`, ``, ``),
		filled(`if true{}`, `elsif true{}`, ``, ``),
		filled(`if true{`, `if true{}`, ``, `}`),
		filled(`if not not not not not true{}`, `elsif not not not not not true{}`, ``, ``),
		filled(`require"variables";`, `set"a""";`, ``, ``),
		filled(`if header"""`+`"{}`, `elsif header"""`+`"{}`, ``, ``),
		filled(`if exists""{}`, `elsif exists""{}`, ``, ``),
	}
	for _, group := range []string{"anyof(", "allof("} {
		within := func(n int, test string) string { return strings.Repeat(group, n) + test + strings.Repeat(")", n) }
		for n := range 5 {
			list = append(list, filled(`if `+group, within(n, `true`), `,`, `){}`), filled(`if `+group, within(4-n, strings.Repeat("not ", n)+`true`), `,`, `){}`))
			list = append(list, filled(``, `if `+within(n+1, `true`)+`{}`, ``, ``), filled(`if true{}`, `elsif `+within(n+1, `true`)+`{}`, ``, ``), filled(`if true{`, `if `+within(n, `true`)+`{}`, ``, `}`))
		}
	}
	most := 0
	for _, text := range list {
		if len(text) > 600 || len(text) < 550 {
			t.Fatalf("%d bytes: %q", len(text), text)
		}
		if _, err := parse(text); err != nil {
			t.Fatalf("%q is no script: %v", text, err)
		}
		code := coded(t, text)
		ended(t, text, code)
		sound(t, text, fields("", ""))
		most = max(most, len(code))
	}
	if most < 300 {
		t.Errorf("%d instructions at the most: these scripts are not crowded", most)
	}
}

func TestCodeOfAnyScript(t *testing.T) {
	c := chance{rand.New(rand.NewSource(7))}
	for range 20000 {
		text := all + c.commands(3)
		if _, err := parse(text); err == nil {
			ended(t, text, coded(t, text))
		}
	}
}

func TestCodesKnowNothingOfOneAnother(t *testing.T) {
	const text = `require ["fileinto","variables"];if header :matches ["h","i"] ["*-*","?"] {fileinto "${1}";} elsif exists ["a","b"] {set "a" "b";}`
	want := coded(t, text)
	first, _ := parse(text)
	other, _ := parse(text)
	overwrite(first.Code())
	for _, s := range []*mailsieve.Script{first, other} {
		if got := s.Code(); !reflect.DeepEqual(got, want) {
			t.Errorf("%+v was %+v", got, want)
		}
	}
}
