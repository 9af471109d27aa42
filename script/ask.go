package script

import (
	"slices"

	"mailsieve/api"
	"mailsieve/fault"
	"mailsieve/letters"
)

// next reads the next word.
func (r *reader) next() {
	r.word, r.behind = scan(r.text, skip(r.text, r.behind))
}

// demand throws a fault at the word that is asked now, unless something holds.
func (r *reader) demand(holds bool, e api.Errno) {
	if !holds {
		panic(fault.At(e, r.word.at))
	}
}

// which tells which of these the word is, counted from 1, or 0.
func (r *reader) which(spelt ...string) int {
	return slices.Index(spelt, r.word.spelt) + 1
}

// may goes on behind the word if it is one of these, and tells which, or 0.
func (r *reader) may(spelt ...string) int {
	i := r.which(spelt...)
	if i > 0 {
		r.next()
	}
	return i
}

// pass goes on behind the word, which must be one of these, and tells which.
func (r *reader) pass(spelt ...string) int {
	i := r.which(spelt...)
	r.demand(i > 0, api.ErrSyntax)
	r.next()
	return i
}

// check tells what is wrong with a string where it stands, or api.OK.
type check = func(s string) api.Errno

func anything(string) api.Errno { return api.OK }

func aName(s string) api.Errno {
	if letters.IsName(s) {
		return api.OK
	}
	return api.ErrArgs
}

func oneOf(e api.Errno, these ...string) check {
	return func(s string) api.Errno {
		if slices.Contains(these, s) {
			return api.OK
		}
		return e
	}
}

// inSmall checks a string in whatever letters it is.
func inSmall(c check) check {
	return func(s string) api.Errno { return c(letters.Small(s)) }
}

// string goes on behind the word, which must be a string that the check lets pass.
func (r *reader) string(c check) string {
	r.demand(r.word.kind == quote, api.ErrSyntax)
	said := r.word.said
	e := c(said)
	r.demand(e == api.OK, e)
	r.next()
	return said
}

// strings reads one string, or some in brackets, each of which must pass the check.
func (r *reader) strings(c check) []string {
	if r.may("[") == 0 {
		return []string{r.string(c)}
	}
	list := []string{r.string(c)}
	for r.pass(",", "]") == 1 {
		list = append(list, r.string(c))
	}
	return list
}
