// Package run: a script is run for a message.
package run

import (
	"slices"

	"mailsieve/acts"
	"mailsieve/api"
	"mailsieve/fault"
	"mailsieve/match"
	"mailsieve/script"
	"mailsieve/state"
)

// runner does commands, and asks tests, of what is known of one message.
type runner struct{ *state.State }

// Run tells what is to be done with a message. An error is an *api.Fault; the message is kept then.
func Run(tree script.Tree, m api.Message) (list []api.Action, err error) {
	defer func() {
		if f := fault.Caught(recover()); f != nil {
			list, err = acts.Kept(), f
		}
	}()
	r := runner{state.New(slices.Contains(tree.Requires, "variables"), m)}
	r.block(tree.Commands)
	return r.Actions(), nil
}

// block does commands one by one, and tells whether those behind them are done too.
func (r runner) block(list []script.Command) (goesOn bool) {
	for _, c := range list {
		if !r.command(c) {
			return false
		}
	}
	return true
}

func (r runner) command(c script.Command) (goesOn bool) {
	switch c := c.(type) {
	case script.Act:
		r.Act(c.Kind, c.Arg, c.At)
	case script.Set:
		r.Set(c.Variable, c.Tag, c.Value)
	case script.Discard:
		r.Discard()
	case script.If:
		return r.block(r.chosen(c))
	case script.Stop:
		return false
	}
	return true
}

// chosen is the block of an if that is done.
func (r runner) chosen(c script.If) []script.Command {
	for _, a := range c.Arms {
		if r.holds(a.Test) {
			return a.Block
		}
	}
	return c.Else
}

func (r runner) holds(t script.Test) bool {
	switch t := t.(type) {
	case script.Truth:
		return t.Holds
	case script.Not:
		return !r.holds(t.Test)
	case script.AllOf:
		return !slices.ContainsFunc(t.Tests, r.fails)
	case script.AnyOf:
		return slices.ContainsFunc(t.Tests, r.holds)
	case script.Header:
		return r.Fields(match.By(t.Tag, t.Octet), t.From, t.Keys)
	case script.Envelope:
		return r.Envelope(match.By(t.Tag, t.Octet), t.From, t.Keys)
	case script.String:
		return r.Strings(match.By(t.Tag, t.Octet), t.From, t.Keys)
	case script.Exists:
		return r.Exists(t.Names)
	case script.Size:
		return r.Size(t.Tag, t.Number)
	}
	return false
}

func (r runner) fails(t script.Test) bool { return !r.holds(t) }
