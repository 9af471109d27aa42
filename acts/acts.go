// Package acts: the actions that a message meets, and what they may be.
package acts

import (
	"slices"
	"strings"

	"mailsieve/api"
	"mailsieve/letters"
)

const (
	maxBox     = 16
	minAddress = 3
	maxAddress = 32
)

// IsBox: is it the name of a box?
func IsBox(s string) bool {
	if s == "" || len(s) > maxBox || s[0] == '.' {
		return false
	}
	for i := range len(s) {
		if c := s[i]; !letters.IsLetter(c) && !letters.IsDigit(c) && c != '-' && c != '.' {
			return false
		}
	}
	return true
}

// IsAddress: may a message be sent on to it?
func IsAddress(s string) bool {
	if len(s) < minAddress || len(s) > maxAddress || strings.Count(s, "@") != 1 {
		return false
	}
	for i := range len(s) {
		if letters.IsBlank(s[i]) {
			return false
		}
	}
	return s[0] != '@' && s[len(s)-1] != '@'
}

// List is the actions that were met, each once, in the order in which they were met first.
type List struct{ met []api.Action }

// Add tells what is wrong with an action here, or api.OK: it is in the list then.
func (l *List) Add(a api.Action) api.Errno {
	switch a.Kind {
	case api.FileInto:
		if !IsBox(a.Arg) {
			return api.ErrBox
		}
	case api.Redirect:
		if !IsAddress(a.Arg) {
			return api.ErrAddr
		}
	case api.Reject:
		a.Arg = a.Arg[:min(len(a.Arg), api.MaxValue)]
	}
	if slices.Contains(l.met, a) {
		return api.OK
	}
	if l.conflicts(a) {
		return api.ErrConflict
	}
	if len(l.met) == api.MaxActs {
		return api.ErrActions
	}
	a.Arg = strings.Clone(a.Arg) // so that the list shares no memory with what it was told
	l.met = append(l.met, a)
	return api.OK
}

// conflicts: a reject stands alone.
func (l *List) conflicts(a api.Action) bool {
	return len(l.met) > 0 && (a.Kind == api.Reject || l.met[0].Kind == api.Reject)
}

// All is the list as it is told: a message that met no action is kept, unless it was discarded.
func (l *List) All(discarded bool) []api.Action {
	if len(l.met) == 0 && !discarded {
		return Kept()
	}
	return slices.Clone(l.met)
}

// Kept is the list of a message that is kept, and nothing else.
func Kept() []api.Action { return []api.Action{{Kind: api.Keep}} }
