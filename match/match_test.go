package match

import (
	"regexp"
	"slices"
	"strings"
	"testing"

	"mailsieve/api"
)

// words are all words of these letters that have so many bytes at the most.
func words(letters string, length int) []string {
	list := []string{""}
	for from := 0; length > 0; length-- {
		to := len(list)
		for _, w := range list[from:to] {
			for i := range len(letters) {
				list = append(list, w+letters[i:i+1])
			}
		}
		from = to
	}
	return list
}

// expression is a key in the words of the library, whose `*?` also takes the fewest bytes, from the first on.
func expression(key string) *regexp.Regexp {
	b := "^(?s:"
	for i := 0; i < len(key); i++ {
		switch {
		case key[i] == '*':
			b += "(.*?)"
		case key[i] == '?':
			b += "(.)"
		case key[i] == '\\' && i+1 < len(key):
			i++
			fallthrough
		default:
			b += regexp.QuoteMeta(key[i : i+1])
		}
	}
	return regexp.MustCompile(b + ")$")
}

func TestAllShortKeysAndValues(t *testing.T) {
	ask := By(api.Matches, true)
	values := words("ab", 6)
	for _, key := range words(`ab*?\`, 5) {
		known := expression(key)
		for _, v := range values {
			want := known.FindStringSubmatch(v)
			told, holds := ask(v, key)
			if holds != (want != nil) || !slices.Equal(told, want) {
				t.Fatalf("%q with %q: %v, %q, want %q", v, key, holds, told, want)
			}
		}
	}
}

func TestKeysOfManyWildcards(t *testing.T) {
	ask := By(api.Matches, true)
	values := words("ab", 7)
	for _, key := range []string{"*ab*ba*", "*a*b*a*b*", "*a?b*?a*", "?*?*?*?", "*aab*ab", "a*aba*a", "*ab?ab*", "**a**b**", "*aa*aa*", "*?ab?*?b", `*\a\b*`} {
		known := expression(key)
		for _, v := range values {
			want := known.FindStringSubmatch(v)
			if told, holds := ask(v, key); holds != (want != nil) || !slices.Equal(told, want) {
				t.Errorf("%q with %q: %v, %q, want %q", v, key, holds, told, want)
			}
		}
	}
}

func TestTagsAndComparators(t *testing.T) {
	for _, c := range []struct {
		tag        int
		octet      bool
		value, key string
		holds      bool
		told       []string
	}{
		{api.Is, true, "aB", "aB", true, nil},
		{api.Is, true, "aB", "ab", false, nil},
		{api.Is, false, "aB", "Ab", true, nil},
		{api.Is, false, "aB", "a", false, nil},
		{api.Is, false, "É", "é", false, nil},
		{api.Contains, true, "xaBx", "aB", true, nil},
		{api.Contains, true, "xaBx", "ab", false, nil},
		{api.Contains, false, "xaBx", "Ab", true, nil},
		{api.Contains, false, "", "", true, nil},
		{api.Contains, false, "a", "aa", false, nil},
		{api.Matches, true, "aB", "*B", true, []string{"aB", "a"}},
		{api.Matches, true, "aB", "*b", false, nil},
		{api.Matches, false, "aB", "*b", true, []string{"aB", "a"}},
		{api.Matches, false, "AB", "?B", true, []string{"AB", "A"}},
		{api.Matches, false, "AB", `\AB`, true, []string{"AB"}},
	} {
		told, holds := By(c.tag, c.octet)(c.value, c.key)
		if holds != c.holds || !slices.Equal(told, c.told) || (told == nil) != (c.told == nil) {
			t.Errorf("%+v: %v, %q", c, holds, told)
		}
	}
}

func TestTagsThatAreNone(t *testing.T) {
	for _, tag := range []int{-1, 0, 4, 1 << 40} {
		if By(tag, true) != nil || By(tag, false) != nil {
			t.Errorf("there is a way of the tag %d", tag)
		}
	}
}

func TestGreatKeysAndValuesEnd(t *testing.T) {
	ask := By(api.Matches, false)
	value, key := strings.Repeat("a", 100000), strings.Repeat("*a", 500)
	if told, holds := ask(value, key); !holds || len(told) != 501 {
		t.Errorf("%v, %d told", holds, len(told))
	}
	if _, holds := ask(value, key+"b"); holds {
		t.Error("there is a b")
	}
}
