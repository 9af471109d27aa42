// Package mailsieve: scripts that say what is to be done with messages, and deliveries that are done whole or not at all: see DOC.md.
package mailsieve

import (
	"slices"

	"mailsieve/api"
	"mailsieve/code"
	"mailsieve/machine"
	"mailsieve/script"
	"mailsieve/store"
)

// Script is what a text says.
type Script struct{ tree script.Tree }

// Parse reads a text (P3 to P8).
func Parse(text string) (*Script, error) {
	tree, err := script.Parse(text)
	if err != nil {
		return nil, err
	}
	return &Script{tree}, nil
}

// said is what a script says; one that is nil says what an empty one does.
func (s *Script) said() script.Tree {
	if s == nil {
		return script.Tree{}
	}
	return s.tree
}

// Text writes the script (P9).
func (s *Script) Text() string { return s.said().Text() }

// Run tells what is to be done with a message (P10 to P16): the machine does the script's instructions.
func (s *Script) Run(m api.Message) ([]api.Action, error) {
	variables := slices.Contains(s.said().Requires, "variables")
	list, _, err := machine.Exec(variables, s.Code(), m)
	return list, err
}

// Code tells instructions that do what the script does (P17).
func (s *Script) Code() []api.Ins { return code.Of(s.said()) }

// Exec does instructions (P18).
func Exec(variables bool, code []api.Ins, m api.Message) ([]api.Action, int, error) {
	return machine.Exec(variables, code, m)
}

// Deliver leaves what the actions ask on a disk, all of it or nothing (P19 to P21).
func Deliver(d api.Disk, id string, acts []api.Action, text string) error {
	return store.Deliver(d, id, acts, text)
}

// Recover ends what went down (P22).
func Recover(d api.Disk) error { return store.Recover(d) }
