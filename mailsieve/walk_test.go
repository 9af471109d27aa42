package mailsieve_test

import (
	"slices"

	"mailsieve/api"
	"mailsieve/fault"
	"mailsieve/match"
	"mailsieve/script"
	"mailsieve/state"
)

// walker is another reading of P10: it goes through a script's tree, without instructions.
type walker struct{ *state.State }

func walk(tree script.Tree, m api.Message) (list []api.Action, err error) {
	defer func() {
		if f := fault.Caught(recover()); f != nil {
			list, err = acts(kept()), f
		}
	}()
	w := walker{state.New(slices.Contains(tree.Requires, "variables"), m)}
	w.block(tree.Commands)
	return w.Actions(), nil
}

func (w walker) block(list []script.Command) (goesOn bool) {
	return !slices.ContainsFunc(list, func(c script.Command) bool { return !w.command(c) })
}

func (w walker) command(c script.Command) (goesOn bool) {
	switch c := c.(type) {
	case script.Act:
		w.Act(c.Kind, c.Arg, c.At)
	case script.Set:
		w.Set(c.Variable, c.Tag, c.Value)
	case script.Discard:
		w.Discard()
	case script.If:
		for _, a := range c.Arms {
			if w.holds(a.Test) {
				return w.block(a.Block)
			}
		}
		return w.block(c.Else)
	case script.Stop:
		return false
	}
	return true
}

func (w walker) holds(t script.Test) bool {
	switch t := t.(type) {
	case script.Truth:
		return t.Holds
	case script.Not:
		return !w.holds(t.Test)
	case script.AllOf:
		return !slices.ContainsFunc(t.Tests, func(t script.Test) bool { return !w.holds(t) })
	case script.AnyOf:
		return slices.ContainsFunc(t.Tests, w.holds)
	case script.Header:
		return w.Fields(match.By(t.Tag, t.Octet), t.From, t.Keys)
	case script.Envelope:
		return w.Envelope(match.By(t.Tag, t.Octet), t.From, t.Keys)
	case script.String:
		return w.Strings(match.By(t.Tag, t.Octet), t.From, t.Keys)
	case script.Exists:
		return w.Exists(t.Names)
	case script.Size:
		return w.Size(t.Tag, t.Number)
	}
	panic("no test")
}
