// Package state: what is known of one message while a script is run for it: the variables, what wildcards told, the actions that were met.
package state

import (
	"mailsieve/acts"
	"mailsieve/api"
	"mailsieve/fault"
)

// State is made for one message, and asked by one run alone.
type State struct {
	message   api.Message
	variables bool
	values    map[string]value
	told      []string
	met       acts.List
	discarded bool
}

// New is the state ahead of the first command. Without variables all strings stand for themselves.
func New(variables bool, m api.Message) *State {
	return &State{message: m, variables: variables, values: map[string]value{}}
}

// Act does an action. What is wrong with it is thrown as a fault at a place.
func (s *State) Act(kind int, arg string, at int) {
	if e := s.met.Add(api.Action{Kind: kind, Arg: s.text(arg)}); e != api.OK {
		panic(fault.At(e, at))
	}
}

// Discard: the message is not kept for want of actions.
func (s *State) Discard() { s.discarded = true }

// Actions is what is to be done with the message when the run has ended.
func (s *State) Actions() []api.Action { return s.met.All(s.discarded) }
