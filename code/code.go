// Package code turns scripts into instructions of the machine.
package code

import (
	"slices"

	"mailsieve/api"
	"mailsieve/script"
)

// coder has the instructions that were added so far.
type coder struct{ list []api.Ins }

// Of is instructions that do what a tree says. They share no memory with it.
//
// Nothing in a script asks for more instructions a byte than `anyof()` does, around a test: four for its seven bytes. So the 600 bytes of a script never come to api.MaxCode.
func Of(tree script.Tree) []api.Ins {
	var c coder
	c.block(tree.Commands)
	return c.list
}

// add adds instructions, and tells the place of the last one.
func (c *coder) add(list ...api.Ins) (last int) {
	c.list = append(c.list, list...)
	return len(c.list) - 1
}

// land makes the jumps at these places go to what is added next.
func (c *coder) land(jumps ...int) {
	for _, j := range jumps {
		c.list[j].N = len(c.list) - (j + 1)
	}
}

func (c *coder) block(list []script.Command) {
	for _, x := range list {
		c.command(x)
	}
}

func (c *coder) command(x script.Command) {
	switch x := x.(type) {
	case script.Act:
		c.add(action(x))
	case script.Set:
		c.add(api.Ins{Op: api.Set, Tag: x.Tag, A: []string{x.Variable}, B: []string{x.Value}, At: x.At})
	case script.Discard:
		c.add(api.Ins{Op: api.Discard, At: x.At})
	case script.Stop:
		c.add(api.Ins{Op: api.Stop, At: x.At})
	case script.If:
		c.choice(x)
	}
}

func action(x script.Act) api.Ins {
	i := api.Ins{Op: api.Act, Tag: x.Kind, At: x.At}
	if x.Kind != api.Keep {
		i.A = []string{x.Arg}
	}
	return i
}

func (c *coder) choice(x script.If) {
	var ends []int
	for _, a := range x.Arms {
		c.test(a.Test)
		fails := c.add(api.Ins{Op: api.JumpNot})
		c.block(a.Block)
		ends = append(ends, c.add(api.Ins{Op: api.Jump}))
		c.land(fails)
	}
	c.block(x.Else)
	c.land(ends...)
}

// test adds instructions that leave one value more, whichever way they are gone through.
func (c *coder) test(t script.Test) {
	switch t := t.(type) {
	case script.Truth:
		c.add(push(t.Holds))
	case script.Not:
		c.test(t.Test)
		c.add(api.Ins{Op: api.Not})
	case script.AllOf:
		c.group(t.Tests, api.JumpNot, false)
	case script.AnyOf:
		c.group(t.Tests, api.JumpIf, true)
	case script.Header:
		c.add(matching(api.Fields, t.Match))
	case script.Envelope:
		c.add(matching(api.Envelope, t.Match))
	case script.String:
		c.add(matching(api.Strings, t.Match))
	case script.Exists:
		c.add(api.Ins{Op: api.Exists, A: slices.Clone(t.Names)})
	case script.Size:
		c.add(api.Ins{Op: api.Size, N: t.Number, Tag: t.Tag})
	}
}

// group asks tests until one settles what the group is: then the jump behind it is taken.
func (c *coder) group(tests []script.Test, jump int, settled bool) {
	var jumps []int
	for _, t := range tests {
		c.test(t)
		jumps = append(jumps, c.add(api.Ins{Op: jump}))
	}
	end := c.add(push(!settled), api.Ins{Op: api.Jump})
	c.land(jumps...)
	c.add(push(settled))
	c.land(end)
}

func push(holds bool) api.Ins {
	if holds {
		return api.Ins{Op: api.Push, N: 1}
	}
	return api.Ins{Op: api.Push}
}

func matching(op int, m script.Match) api.Ins {
	return api.Ins{Op: op, Tag: m.Tag, Octet: m.Octet, A: slices.Clone(m.From), B: slices.Clone(m.Keys)}
}
