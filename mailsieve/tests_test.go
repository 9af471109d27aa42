package mailsieve_test

import (
	"strings"
	"testing"

	"mailsieve/api"
)

// P13.

func TestHeader(t *testing.T) {
	m := fields("Subject", "one", "X-A", "two", "subject", "three", "Empty", "", "é", "four")
	holding(t, m, true, `header "subject" "one"`, `header "SUBJECT" "three"`, `header ["x-a"] ["q","two"]`, `header ["none","x-a"] "two"`, `header "empty" ""`, `header "é" "four"`,
		`header ["subject","x-a"] ["four","three"]`)
	holding(t, m, false, `header "subject" "two"`, `header "none" ""`, `header "none" "one"`, `header "" ""`, `header "subject " "one"`, `header "sub" "one"`, `header "É" "four"`, `header "subject" ""`,
		`header ["none","nil"] ["one","two"]`, `header "subject" "onethree"`, `header :matches "none" "*"`, `header :contains "none" ""`)
	holding(t, fields(), false, `header "a" ""`, `header :matches ["a","b"] "*"`)
	holding(t, fields("", "x"), true, `header "" "x"`, `exists ""`)
}

func TestHeaderAsksNameByName(t *testing.T) {
	m := fields("b", "b1", "a", "a1", "B", "b2", "A", "a2")
	for names, want := range map[string]string{`["a","b"]`: "a1", `["b","a"]`: "b1", `"B"`: "b1", `["c","A"]`: "a1"} {
		says(t, all, said{`if header :matches ` + names + ` "*" {fileinto "${0}";}`, m, acts(into(want))})
	}
	for keys, want := range map[string]string{`["?2","?1"]`: "a1", `["b*","a*"]`: "a1", `["?2"]`: "a2", `["b*"]`: "b1", `["b2","*2"]`: "a2", `["q","*2","*1"]`: "a1"} {
		says(t, all, said{`if header :matches ["a","b"] ` + keys + ` {fileinto "${0}";}`, m, acts(into(want))})
	}
	says(t, all, said{`if header :matches "a" ["*1","a*"] {fileinto "x${1}";}`, m, acts(into("xa"))}, said{`if header :matches "a" ["a*","*1"] {fileinto "x${1}";}`, m, acts(into("x1"))})
}

func TestEnvelope(t *testing.T) {
	m := api.Message{From: "Me@Home", To: "you@there", Headers: []api.Header{{Name: "from", Value: "else"}, {Name: "to", Value: "who"}}}
	holding(t, m, true, `envelope "from" "me@home"`, `envelope "FROM" "ME@HOME"`, `envelope "To" "you@there"`, `envelope ["to","from"] "me@home"`, `envelope :contains "from" "@h"`,
		`envelope :comparator "i;octet" "from" "Me@Home"`, `envelope :matches "to" "*@*"`)
	holding(t, m, false, `envelope "from" "else"`, `envelope "from" "you@there"`, `envelope "to" "me@home"`, `envelope :comparator "i;octet" "from" "me@home"`, `envelope "from" ""`)
	holding(t, api.Message{}, true, `envelope "from" ""`, `envelope :matches "to" "*"`)
	says(t, all,
		said{`if envelope :matches ["to","from"] ["m*@*","*@*"] {fileinto "${1}";}`, m, acts(into("you"))},
		said{`if envelope :matches ["from","to"] ["y*@*","*@*"] {fileinto "${1}";}`, m, acts(into("Me"))},
	)
}

func TestString(t *testing.T) {
	holding(t, fields("a", "b"), true, `string "a" "A"`, `string ["a","b"] ["c","b"]`, `string "" ""`, `string :contains "abc" "b"`, `string :matches "abc" "?b?"`)
	holding(t, fields("a", "b"), false, `string "a" "b"`, `string "a" ""`, `string :comparator "i;octet" "a" "A"`, `string ["a","b"] ["c","d"]`)
	says(t, all, said{`if string :matches ["ab","cd"] ["c*","a*"] {fileinto "${1}";}`, fields(), acts(into("b"))})
}

func TestExists(t *testing.T) {
	m := fields("Subject", "", "X-A", "two")
	holding(t, m, true, `exists "subject"`, `exists "SUBJECT"`, `exists ["x-a","subject"]`, `exists ["x-a","X-A"]`)
	holding(t, m, false, `exists "none"`, `exists ["subject","none"]`, `exists ["none","subject"]`, `exists ""`, `exists "subject "`, `exists "from"`)
	holding(t, api.Message{}, false, `exists "a"`)
}

func TestSize(t *testing.T) {
	for size, want := range map[int][2]bool{-1: {false, true}, 0: {false, true}, 9: {false, true}, 10: {false, false}, 11: {true, false}, 1 << 40: {true, false}} {
		holding(t, api.Message{Size: size}, want[0], `size :over 10`)
		holding(t, api.Message{Size: size}, want[1], `size :under 10`)
	}
	holding(t, api.Message{Size: 1024}, false, `size :over 1K`, `size :under 1K`)
	holding(t, api.Message{Size: 1025}, true, `size :over 1K`)
	holding(t, api.Message{Size: -1}, true, `size :under 0`)
	holding(t, api.Message{Size: 1<<31 - 1}, false, `size :over 2147483647`, `size :under 2147483647`)
}

// P14.

func TestIs(t *testing.T) {
	m := fields("a", "aBc", "star", "*")
	holding(t, m, true, `header "a" "AbC"`, `header :is "a" "abc"`, `header :comparator "i;octet" "a" "aBc"`, `header :comparator "i;ascii-casemap" "a" "ABC"`, `header "star" "*"`)
	holding(t, m, false, `header "a" "ab"`, `header "a" "abcd"`, `header "a" "*"`, `header "a" "a?c"`, `header :comparator "i;octet" "a" "abc"`, `header "star" "\\*"`)
	holding(t, fields("a", "É"), false, `header "a" "é"`)
	holding(t, fields("a", "\u212a"), false, `header "a" "k"`)
	holding(t, fields("a", "@[`{"), false, "header \"a\" \"`{@[\"")
}

func TestContains(t *testing.T) {
	m := fields("a", "aBcd")
	holding(t, m, true, `header :contains "a" ""`, `header :contains "a" "A"`, `header :contains "a" "BC"`, `header :contains "a" "d"`, `header :contains "a" "abcd"`,
		`header :contains :comparator "i;octet" "a" "Bc"`, `header :contains "a" ["x","cd"]`)
	holding(t, m, false, `header :contains "a" "ac"`, `header :contains "a" "abcde"`, `header :contains :comparator "i;octet" "a" "bc"`, `header :contains "a" "a*d"`, `header :contains "a" "?"`)
	holding(t, fields("a", ""), true, `header :contains "a" ""`)
	holding(t, fields("a", ""), false, `header :contains "a" "a"`)
}

// fit asks one value and one key, with a comparator.
func fit(t *testing.T, value, key string, octet bool, want bool) {
	t.Helper()
	option := ""
	if octet {
		option = `:comparator "i;octet" `
	}
	holding(t, fields("a", value), want, `header :matches `+option+`"a" `+text(key))
}

func TestMatches(t *testing.T) {
	for value, keys := range map[string]map[string]bool{
		"":       {"": true, "*": true, "***": true, "?": false, "*?": false, "a": false, "\\": false, "\\*": false},
		"a":      {"": false, "a": true, "A": true, "?": true, "*": true, "?*": true, "*?": true, "??": false, "b": false, "**a**": true, "\\a": true, "\\A": true, "\\?": false, "aa": false},
		"abc":    {"abc": true, "a*": true, "*c": true, "a*c": true, "*b*": true, "a?c": true, "a??": true, "???": true, "????": false, "??": false, "a*d": false, "b*": false, "*b": false, "*?*?*?*": true, "*?*?*?*?*": false, "a*b*c*": true, "a*c*b": false},
		"a*c":    {"a\\*c": true, "a\\?c": false, "a*c": true, "a?c": true},
		"abab":   {"*ab": true, "ab*ab": true, "*aba": false, "*b*b": true, "ab*ab*ab": false, "a*ab": true},
		"x\\y":   {"x\\\\y": true, "x\\y": false, "x?y": true, "x*y": true},
		"x\\":    {"x\\": true, "x\\\\": true, "x*\\": true, "x\\\\\\": false},
		"a\nb":   {"a*b": true, "a?b": true, "*": true},
		"\xff":   {"?": true, "\xff": true, "\xfe": false, "\\\xff": true},
		"é":      {"??": true, "?": false, "é": true},
		"a[b]":   {"a[b]": true, "a[a-c]": false},
		"aaaaab": {"*aab": true, "*a*b": true, "*aaaaaab": false, "?*?b": true},
	} {
		for key, want := range keys {
			fit(t, value, key, false, want)
			fit(t, value, key, true, want && !strings.Contains(key, "A"))
		}
	}
	fit(t, "aBC", "AbC", false, true)
	fit(t, "aBC", "A*c", false, true)
	fit(t, "aBC", "A*C", true, false)
	fit(t, "aBC", "a*C", true, true)
	fit(t, "@", "`", false, false)
}
