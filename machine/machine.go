// Package machine does instructions.
package machine

import (
	"mailsieve/acts"
	"mailsieve/api"
	"mailsieve/fault"
	"mailsieve/state"
)

// machine is what instructions work on while they are done for one message.
type machine struct {
	*state.State
	values []bool // those that were pushed, and not taken away yet
	now    int    // the number of the instruction that is done
	next   int    // and of the one that is done then
	count  int    // how many there are
}

// Exec does instructions for a message, and tells what is to be done with it, and how many instructions were done. An error is an *api.Fault; the message is kept then.
func Exec(variables bool, code []api.Ins, m api.Message) (list []api.Action, done int, err error) {
	defer func() {
		if f := fault.Caught(recover()); f != nil {
			list, err = acts.Kept(), f
		}
	}()
	if len(code) > api.MaxCode {
		panic(fault.At(api.ErrCode, api.MaxCode))
	}
	x := &machine{State: state.New(variables, m), count: len(code)}
	ways := table()
	for x.next < x.count {
		done++
		x.now, x.next = x.next, x.next+1
		x.do(ways, code[x.now])
	}
	return x.Actions(), done, nil
}

func (x *machine) do(ways []way, i api.Ins) {
	x.must(i.Op >= 0 && i.Op < len(ways) && ways[i.Op] != nil)
	ways[i.Op](x, i)
}

// must throws, if something does not hold that the instruction that is done needs.
func (x *machine) must(holds bool) {
	if !holds {
		panic(fault.At(api.ErrCode, x.now))
	}
}

func (x *machine) put(value bool) {
	x.must(len(x.values) < api.MaxStack)
	x.values = append(x.values, value)
}

func (x *machine) take() bool {
	x.must(len(x.values) > 0)
	last := len(x.values) - 1
	value := x.values[last]
	x.values = x.values[:last]
	return value
}
