package machine

import (
	"mailsieve/api"
	"mailsieve/match"
	"mailsieve/state"
)

// way is how an instruction is done.
type way func(x *machine, i api.Ins)

// table has for each instruction, by its number, how it is done.
func table() []way {
	return []way{
		api.Push:     (*machine).push,
		api.Not:      (*machine).turn,
		api.Jump:     (*machine).jump,
		api.JumpIf:   jumpAt(true),
		api.JumpNot:  jumpAt(false),
		api.Fields:   asking((*state.State).Fields),
		api.Envelope: asking((*state.State).Envelope),
		api.Strings:  asking((*state.State).Strings),
		api.Exists:   (*machine).exists,
		api.Size:     (*machine).size,
		api.Act:      (*machine).act,
		api.Set:      (*machine).set,
		api.Discard:  func(x *machine, _ api.Ins) { x.Discard() },
		api.Stop:     func(x *machine, _ api.Ins) { x.next = x.count },
	}
}

func (x *machine) push(i api.Ins) {
	x.must(i.N == 0 || i.N == 1)
	x.put(i.N == 1)
}

func (x *machine) turn(api.Ins) { x.put(!x.take()) }

func (x *machine) jump(i api.Ins) {
	x.must(x.mayPass(i.N))
	x.next += i.N
}

// mayPass: are there so many instructions behind the one that is done?
func (x *machine) mayPass(n int) bool { return n >= 0 && n <= x.count-x.next }

// jumpAt is a jump that is taken at one value, and must be one that can be taken at the other too.
func jumpAt(taken bool) way {
	return func(x *machine, i api.Ins) {
		x.must(x.mayPass(i.N))
		if x.take() == taken {
			x.next += i.N
		}
	}
}

// asking is a test of values and keys, which A and B tell.
func asking(holds func(s *state.State, by match.Way, from, keys []string) bool) way {
	return func(x *machine, i api.Ins) {
		by := match.By(i.Tag, i.Octet)
		x.must(by != nil)
		x.put(holds(x.State, by, i.A, i.B))
	}
}

func (x *machine) exists(i api.Ins) { x.put(x.Exists(i.A)) }

func (x *machine) size(i api.Ins) {
	x.must(i.Tag == api.Over || i.Tag == api.Under)
	x.put(x.Size(i.Tag, i.N))
}

func (x *machine) act(i api.Ins) {
	switch i.Tag {
	case api.Keep:
		x.Act(i.Tag, "", i.At)
	case api.FileInto, api.Redirect, api.Reject:
		x.must(len(i.A) > 0)
		x.Act(i.Tag, i.A[0], i.At)
	default:
		x.must(false)
	}
}

func (x *machine) set(i api.Ins) {
	x.must(i.Tag >= api.Plain && i.Tag <= api.Length && len(i.A) > 0 && len(i.B) > 0)
	x.Set(i.A[0], i.Tag, i.B[0])
}
