package mailsieve_test

import (
	"strconv"
	"strings"
	"testing"

	"mailsieve/api"
)

// tells asks what `${0}` to `${9}` are behind these commands: the wanted ones, and then nothing.
func tells(t *testing.T, commands string, m api.Message, want ...string) {
	t.Helper()
	for i := range 10 {
		value := ""
		if i < len(want) {
			value = want[i]
		}
		says(t, all, said{commands + ` reject "${` + strconv.Itoa(i) + `}";`, m, acts(rejected(value))})
	}
}

// P15.

func TestWhatWildcardsTell(t *testing.T) {
	for _, c := range []struct {
		value, key string
		want       []string
	}{
		{"x-y-z", "*-*", []string{"x", "y-z"}},
		{"x-y-z", "*-*-*", []string{"x", "y", "z"}},
		{"abcd", "?b*", []string{"a", "cd"}},
		{"AbBc", "*B*", []string{"A", "Bc"}},
		{"ABC", "abc", nil},
		{"ABC", "?b?", []string{"A", "C"}},
		{"ABC", "a*", []string{"BC"}},
		{"abc", "***", []string{"", "", "abc"}},
		{"abc", "**b**", []string{"", "a", "", "c"}},
		{"abc", "*?*", []string{"", "a", "bc"}},
		{"abc", "*?", []string{"ab", "c"}},
		{"aXbXc", "*x*c", []string{"a", "bX"}},
		{"ab ab", "*ab", []string{"ab "}},
		{"abab", "*b*b", []string{"a", "a"}},
		{"aaa", "*a*a*", []string{"", "", "a"}},
		{"aaa", "*a*a", []string{"", "a"}},
		{"aabaab", "*a?b*", []string{"", "a", "aab"}},
		{"xaaab", "*a??*b", []string{"x", "a", "a", ""}},
		{"abcabd", "*ab?*d", []string{"", "c", "ab"}},
		{"*?", `\*?`, []string{"?"}},
		{`a\b`, `?\\?`, []string{"a", "b"}},
		{"", "*", []string{""}},
		{"", "", nil},
		{"a\n\xff\x00", "?*", []string{"a", "\n\xff\x00"}},
		{"abcdefghijkl", "???????????*", []string{"a", "b", "c", "d", "e", "f", "g", "h", "i"}},
		{"abcdefghi", "?????????", []string{"a", "b", "c", "d", "e", "f", "g", "h", "i"}},
	} {
		want := append([]string{c.value}, c.want...)
		tells(t, `if header :matches "h" `+text(c.key)+` {}`, fields("h", c.value), want...)
	}
}

func TestComparatorsTell(t *testing.T) {
	m := fields("h", "AbBc")
	tells(t, `if header :matches "h" "*B*" {}`, m, "AbBc", "A", "Bc")
	tells(t, `if header :matches :comparator "i;ascii-casemap" "h" "*b*" {}`, m, "AbBc", "A", "Bc")
	tells(t, `if header :matches :comparator "i;octet" "h" "*B*" {}`, m, "AbBc", "Ab", "c")
	tells(t, `if header :matches :comparator "i;octet" "h" "*C*" {}`, m)
}

func TestEachTestOfWildcardsTells(t *testing.T) {
	m := api.Message{From: "me@home", To: "you@there", Headers: []api.Header{{Name: "h", Value: "v-w"}}}
	tells(t, `if header :matches "h" "*-*" {}`, m, "v-w", "v", "w")
	tells(t, `if envelope :matches "from" "*@*" {}`, m, "me@home", "me", "home")
	tells(t, `if envelope :matches ["from","to"] "y*@*" {}`, m, "you@there", "ou", "there")
	tells(t, `set "a" "x";if string :matches ["q","${a}-${a}"] ["z*","*-*"] {}`, m, "x-x", "x", "x")
	tells(t, `if header :matches ["g","h"] ["a*","*w"] {}`, m, "v-w", "v-")
}

func TestWhatIsToldLast(t *testing.T) {
	const first = `if string :matches "a-b-c" "*-*-*" {}`
	m := fields("h", "v-w")
	tells(t, ``, m)
	tells(t, first, m, "a-b-c", "a", "b", "c")
	tells(t, first+`if header :matches "h" "*-w" {}`, m, "v-w", "v")
	tells(t, first+`if header :matches "h" "v-w" {}`, m, "v-w")
	tells(t, first+`if header :matches "h" "x*" {}`, m, "a-b-c", "a", "b", "c")
	tells(t, first+`if header :matches "none" "*" {}`, m, "a-b-c", "a", "b", "c")
	tells(t, first+`if header :is "h" "v-w" {}`, m, "a-b-c", "a", "b", "c")
	tells(t, first+`if header :contains "h" "v" {}`, m, "a-b-c", "a", "b", "c")
	tells(t, first+`if exists "h" {}`, m, "a-b-c", "a", "b", "c")
	tells(t, first+`if size :over 1 {}`, m, "a-b-c", "a", "b", "c")
	tells(t, first+`set "v" "x";`, m, "a-b-c", "a", "b", "c")
}

func TestTestsWithinTestsTell(t *testing.T) {
	const a, b = `string :matches "ab" "a*"`, `string :matches "cd" "*d"`
	tells(t, `if not `+a+` {}`, fields(), "ab", "b")
	tells(t, `if allof(`+a+`,false) {}`, fields(), "ab", "b")
	tells(t, `if allof(`+a+`,`+b+`) {}`, fields(), "cd", "c")
	tells(t, `if anyof(`+a+`,`+b+`) {}`, fields(), "ab", "b")
	tells(t, `if anyof(string :matches "ab" "x*",`+b+`) {}`, fields(), "cd", "c")
	tells(t, `if not `+a+` {} elsif `+b+` {}`, fields(), "cd", "c")
	tells(t, `if `+a+` {} elsif `+b+` {}`, fields(), "ab", "b")
}

func TestWhatIsToldIsReadAtOnce(t *testing.T) {
	says(t, all,
		said{`if allof(header :matches "h" "*-*", string "${2}" "w") {fileinto "${1}";}`, fields("h", "v-w"), acts(into("v"))},
		said{`if header :matches "h" "*" {} if header :matches "g" "${1}*" {fileinto "${1}";}`, fields("h", "v", "g", "vw"), acts(into("w"))},
	)
}

func TestLongKeysWithManyStars(t *testing.T) {
	value := strings.Repeat("a", 20000)
	m := fields("h", value+"b", "k", strings.Repeat("*a", 40)+"*")
	holding(t, m, true, `header :matches "h" "`+strings.Repeat("*a", 150)+`*b"`, `allof(header :matches "k" "*",header :matches "h" "${1}")`)
	holding(t, m, false, `header :matches "h" "`+strings.Repeat("*a", 150)+`*c"`, `header :matches "h" "`+strings.Repeat("*", 300)+`c"`)
}
