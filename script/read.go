package script

import (
	"slices"

	"mailsieve/api"
	"mailsieve/fault"
	"mailsieve/letters"
)

// reader has the word that is asked now. The next one is read only when nothing is left to ask of it, so that of all faults the first one is found.
type reader struct {
	text     string
	word     word
	behind   int
	requires []string
	commands map[string]behindCommand
	tests    map[string]behindTest
}

// What is read behind the first word of a command, of a test, that stands so deep.
type (
	behindCommand = func(h Head, depth int) Command
	behindTest    = func(h Head, depth int) Test
)

// Parse reads a text: an error is api.ErrLong or an *api.Fault.
func Parse(text string) (tree Tree, err error) {
	if len(text) > api.MaxText {
		return Tree{}, api.ErrLong
	}
	defer func() {
		if f := fault.Caught(recover()); f != nil {
			tree, err = Tree{}, f
		}
	}()
	return newReader(text).script(), nil
}

func newReader(text string) *reader {
	r := &reader{text: text}
	r.commands = map[string]behindCommand{
		"keep":     r.keep,
		"discard":  r.discard,
		"stop":     r.stop,
		"fileinto": r.act(api.FileInto),
		"redirect": r.act(api.Redirect),
		"reject":   r.act(api.Reject),
		"set":      r.set,
		"if":       r.choice,
	}
	r.tests = map[string]behindTest{
		"true":     truth(true),
		"false":    truth(false),
		"not":      r.not,
		"allof":    func(h Head, depth int) Test { return AllOf{r.group(h, depth)} },
		"anyof":    func(h Head, depth int) Test { return AnyOf{r.group(h, depth)} },
		"header":   func(h Head, _ int) Test { return Header{r.match(h, anything)} },
		"envelope": func(h Head, _ int) Test { return Envelope{r.match(h, inSmall(oneOf(api.ErrArgs, "from", "to")))} },
		"string":   func(h Head, _ int) Test { return String{r.match(h, anything)} },
		"exists":   r.exists,
		"size":     r.size,
	}
	return r
}

func (r *reader) script() Tree {
	r.next()
	r.require()
	var list []Command
	for r.word.kind != end {
		list = append(list, r.command(0))
	}
	return Tree{Requires: r.requires, Commands: list}
}

func (r *reader) require() {
	for r.may("require") > 0 {
		for _, s := range r.strings(oneOf(api.ErrUse, "envelope", "fileinto", "reject", "variables")) {
			if !slices.Contains(r.requires, s) {
				r.requires = append(r.requires, s)
			}
		}
		r.pass(";")
	}
}

func (r *reader) command(depth int) Command { return begin(r, r.commands, depth) }

func (r *reader) test(depth int) Test { return begin(r, r.tests, depth) }

// begin asks the first word of a command or test, and reads what is behind it.
func begin[T any](r *reader, behind map[string]func(Head, int) T, depth int) T {
	r.demand(r.word.kind != name || depth <= api.MaxNest, api.ErrNest)
	read, known := behind[r.word.spelt]
	r.demand(known, api.ErrSyntax)
	r.demand(r.mayUse(r.word.spelt), api.ErrUse)
	h := Head{Word: r.word.spelt, At: r.word.at}
	r.next()
	return read(h, depth)
}

// mayUse: is that required which the word of a command or test needs?
func (r *reader) mayUse(spelt string) bool {
	switch spelt {
	case "fileinto", "reject", "envelope":
		return slices.Contains(r.requires, spelt)
	case "set", "string":
		return slices.Contains(r.requires, "variables")
	}
	return true
}

func (r *reader) keep(h Head, _ int) Command {
	r.pass(";")
	return Act{Head: h, Kind: api.Keep}
}

func (r *reader) discard(h Head, _ int) Command {
	r.pass(";")
	return Discard{h}
}

func (r *reader) stop(h Head, _ int) Command {
	r.pass(";")
	return Stop{h}
}

// act is for the actions that have an argument.
func (r *reader) act(kind int) behindCommand {
	return func(h Head, _ int) Command {
		arg := r.string(anything)
		r.pass(";")
		return Act{Head: h, Kind: kind, Arg: arg}
	}
}

func (r *reader) set(h Head, _ int) Command {
	c := Set{Head: h, Tag: r.may(turnTags()...)}
	c.Variable = letters.Small(r.string(aName))
	c.Value = r.string(anything)
	r.pass(";")
	return c
}

func (r *reader) choice(h Head, depth int) Command {
	c := If{Head: h, Arms: []Arm{r.arm(depth)}}
	for r.may("elsif") > 0 {
		c.Arms = append(c.Arms, r.arm(depth))
	}
	if r.may("else") > 0 {
		c.HasElse = true
		c.Else = r.block(depth + 1)
	}
	return c
}

func (r *reader) arm(depth int) Arm {
	test := r.test(depth + 1)
	return Arm{Test: test, Block: r.block(depth + 1)}
}

// block reads commands that stand so deep.
func (r *reader) block(depth int) []Command {
	r.pass("{")
	var list []Command
	for r.may("}") == 0 {
		list = append(list, r.command(depth))
	}
	return list
}

func truth(holds bool) behindTest {
	return func(h Head, _ int) Test { return Truth{h, holds} }
}

func (r *reader) not(h Head, depth int) Test { return Not{h, r.test(depth + 1)} }

func (r *reader) group(h Head, depth int) Group {
	r.pass("(")
	list := []Test{r.test(depth + 1)}
	for r.pass(",", ")") == 1 {
		list = append(list, r.test(depth+1))
	}
	return Group{h, list}
}

func (r *reader) match(h Head, from check) Match {
	m := r.options(h)
	m.From = r.strings(from)
	m.Keys = r.strings(anything)
	return m
}

func (r *reader) options(h Head) Match {
	m := Match{Head: h}
	compared := false
	for {
		if i := r.which(matchTags()...); i > 0 {
			r.demand(m.Tag == 0, api.ErrArgs)
			m.Tag = i
			r.next()
		} else if r.which(comparatorTag) > 0 {
			r.demand(!compared, api.ErrArgs)
			compared = true
			r.next()
			m.Octet = r.string(oneOf(api.ErrArgs, octet, casemap)) == octet
		} else {
			m.Tag = max(m.Tag, api.Is)
			return m
		}
	}
}

func (r *reader) exists(h Head, _ int) Test { return Exists{h, r.strings(anything)} }

func (r *reader) size(h Head, _ int) Test {
	t := Size{Head: h, Tag: r.pass(sizeTags()...)}
	r.demand(r.word.kind == number, api.ErrSyntax)
	t.Number = r.word.number
	r.next()
	return t
}
