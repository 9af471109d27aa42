// Package fault: faults are thrown where they are found, and caught by the call that was asked.
package fault

import "mailsieve/api"

// At is an error at a place, to be thrown.
func At(e api.Errno, at int) *api.Fault { return &api.Fault{Err: e, At: at} }

// Caught is the fault that recover has answered, or nil. What is no fault is thrown on: it must not look like an answer.
func Caught(thrown any) *api.Fault {
	switch thrown := thrown.(type) {
	case nil:
		return nil
	case *api.Fault:
		return thrown
	}
	panic(thrown)
}
