package state

import (
	"strconv"
	"strings"

	"mailsieve/api"
	"mailsieve/letters"
)

// maxString is how many bytes a string has at the most, when variables stand for their values.
const maxString = 1024

// value is a variable's.
type value struct{ text string }

// Set gives a variable of this very name a value, turned as the tag says.
func (s *State) Set(name string, tag int, said string) {
	text := s.text(said)
	switch tag {
	case api.Lower:
		text = letters.Small(text)
	case api.Upper:
		text = letters.Capital(text)
	case api.Length:
		text = strconv.Itoa(len(text))
	}
	s.values[name] = value{text[:min(len(text), api.MaxValue)]}
}

// text is a string as it is asked: with the values of the variables that it names. No more of a value is taken than there is room for, however long values are.
func (s *State) text(said string) string {
	if !s.variables {
		return said
	}
	var text []byte
	for at := 0; at < len(said) && len(text) < maxString; {
		stands, length := s.standing(said[at:])
		text = append(text, stands[:min(len(stands), maxString-len(text))]...)
		at += length
	}
	return string(text)
}

func (s *State) texts(list []string) []string {
	var texts []string
	for _, said := range list {
		texts = append(texts, s.text(said))
	}
	return texts
}

// standing is what a text, which is not empty, begins with, and how many bytes of it say that: a variable, or a byte that stands for itself.
func (s *State) standing(said string) (stands string, length int) {
	if rest, begun := strings.CutPrefix(said, "${"); begun {
		name := rest[:nameLength(rest)]
		if name != "" && strings.HasPrefix(rest[len(name):], "}") {
			return s.value(name), len("${") + len(name) + len("}")
		}
	}
	return said[:1], 1
}

// nameLength is how long the name of a variable is with which a text begins, one digit being a name here.
func nameLength(s string) int {
	if s != "" && letters.IsDigit(s[0]) {
		return 1
	}
	return letters.NameLength(s)
}

func (s *State) value(name string) string {
	if !letters.IsDigit(name[0]) {
		return s.values[letters.Small(name)].text
	}
	if i := int(name[0] - '0'); i < len(s.told) {
		return s.told[i]
	}
	return ""
}
