package mailsieve_test

import (
	"math"
	"math/rand"
	"slices"
	"strings"
	"sync"
	"testing"
	"unsafe"

	"mailsieve/api"
	"mailsieve/fault"
	"mailsieve/mailsieve"
	"mailsieve/match"
	"mailsieve/state"
)

// reader is another reading of P18: from an instruction on to the end, with the values as a row of zeros and ones.
type reader struct {
	*state.State
	code []api.Ins
	done int
}

func reading(variables bool, code []api.Ins, m api.Message) (list []api.Action, done int, err error) {
	if len(code) > 400 {
		return acts(kept()), 0, fault.At(api.ErrCode, 400)
	}
	r := &reader{State: state.New(variables, m), code: code}
	defer func() {
		if f := fault.Caught(recover()); f != nil {
			list, done, err = acts(kept()), r.done, f
		}
	}()
	r.from(0, "")
	return r.Actions(), r.done, nil
}

// from throws the fault of the first instruction that cannot be done.
func (r *reader) from(at int, values string) {
	if at == len(r.code) {
		return
	}
	r.done++
	i, left := r.code[at], len(r.code)-at-1
	next, values, can := r.after(i, left, values)
	if !can || len(values) > 8 || next < 0 || next > left {
		panic(fault.At(api.ErrCode, at))
	}
	r.from(at+1+next, values)
}

// after is how many instructions are passed over, of those that are left, and which values are there then.
func (r *reader) after(i api.Ins, left int, values string) (next int, then string, can bool) {
	digit := map[bool]string{false: "0", true: "1"}
	last := len(values) - 1
	switch i.Op {
	case api.Push:
		return 0, values + digit[i.N == 1], i.N == 0 || i.N == 1
	case api.Jump:
		return i.N, values, true
	case api.Not, api.JumpIf, api.JumpNot:
		if last < 0 || i.Op != api.Not && (i.N < 0 || i.N > left) {
			return 0, "", false
		}
		if i.Op == api.Not {
			return 0, values[:last] + digit[values[last] == '0'], true
		}
		if (values[last] == '1') == (i.Op == api.JumpIf) {
			next = i.N
		}
		return next, values[:last], true
	case api.Stop:
		return left, values, true
	case api.Discard:
		r.Discard()
		return 0, values, true
	case api.Act, api.Set:
		return 0, values, r.command(i)
	}
	holds, can := r.test(i)
	return 0, values + digit[holds], can
}

func (r *reader) command(i api.Ins) (can bool) {
	switch {
	case i.Op == api.Act && i.Tag == 1:
		r.Act(1, "", i.At)
	case i.Op == api.Act && i.Tag >= 2 && i.Tag <= 4 && len(i.A) > 0:
		r.Act(i.Tag, i.A[0], i.At)
	case i.Op == api.Set && i.Tag >= 0 && i.Tag <= 3 && len(i.A) > 0 && len(i.B) > 0:
		r.Set(i.A[0], i.Tag, i.B[0])
	default:
		return false
	}
	return true
}

func (r *reader) test(i api.Ins) (holds, can bool) {
	by := match.By(i.Tag, i.Octet)
	switch {
	case i.Op == api.Exists:
		return r.Exists(i.A), true
	case i.Op == api.Size && (i.Tag == 1 || i.Tag == 2):
		return r.Size(i.Tag, i.N), true
	case i.Op == api.Fields && by != nil:
		return r.Fields(by, i.A, i.B), true
	case i.Op == api.Envelope && by != nil:
		return r.Envelope(by, i.A, i.B), true
	case i.Op == api.Strings && by != nil:
		return r.Strings(by, i.A, i.B), true
	}
	return false, false
}

// alike: instructions come to what the other reading of them says.
func alike(t *testing.T, variables bool, code []api.Ins, m api.Message) error {
	t.Helper()
	got, count, err := exec(t, variables, code, m)
	want, done, fault := reading(variables, code, m)
	if !slices.Equal(got, want) || count != done || !sameFault(err, fault) {
		t.Fatalf("%+v with %+v: %v, %d, %v, want %v, %d, %v", code, m, got, count, err, want, done, fault)
	}
	return err
}

func (c chance) number(list ...int) int { return list[c.Intn(len(list))] }

func (c chance) some() []string {
	var list []string
	for range c.Intn(3) {
		list = append(list, c.of("a", "B", "from", "TO", "a@b", "*", "", "x", c.string()))
	}
	return list
}

// ins is an instruction that can nearly always be done, or, if wild, one of any numbers.
func (c chance) ins(wild bool) api.Ins {
	i := api.Ins{Op: 1 + c.Intn(14), N: c.Intn(2), Tag: 1 + c.Intn(2), Octet: c.Intn(2) == 0, A: append(c.some(), "a"), B: append(c.some(), "b"), At: c.Intn(1000)}
	if !wild {
		return i
	}
	return api.Ins{Op: c.number(i.Op, i.Op, i.Op, c.Intn(20)-3, math.MinInt, math.MaxInt), N: c.number(i.N, c.Intn(5)-1, math.MinInt, math.MaxInt), Tag: c.number(i.Tag, c.Intn(7)-1, math.MinInt, math.MaxInt),
		Octet: i.Octet, A: c.some(), B: c.some(), At: int(c.Uint64())}
}

func (c chance) code(length int, wild int) []api.Ins {
	var code []api.Ins
	for range length {
		code = append(code, c.ins(c.Intn(wild) == 0))
	}
	return code
}

// P1.

func TestAnyInstructions(t *testing.T) {
	c := chance{rand.New(rand.NewSource(8))}
	ends := map[bool]int{}
	for range 60000 {
		err := alike(t, c.Intn(4) > 0, c.code(c.Intn(14), 1+c.Intn(30)), c.message())
		ends[err == nil]++
	}
	for range 300 {
		alike(t, true, c.code(395+c.Intn(10), 1000), c.message())
	}
	if ends[true] < 5000 || ends[false] < 5000 {
		t.Errorf("%d went to their end, %d not: one of them is hardly asked", ends[true], ends[false])
	}
}

// TestAllShortInstructions: all rows of a few instructions.
func TestAllShortInstructions(t *testing.T) {
	kinds := ins(push(0), push(1), turn(), jump(0), jump(1), jump(2), jump(-1), jumpIf(0), jumpIf(1), jumpNot(1), jumpNot(2), act(api.FileInto, "a"), discard(), stop(), exists())
	var go1 func(code []api.Ins)
	go1 = func(code []api.Ins) {
		alike(t, true, code, api.Message{})
		if len(code) < 4 {
			for _, k := range kinds {
				go1(append(slices.Clone(code), k))
			}
		}
	}
	go1(nil)
}

func TestInstructionsOfGreatLists(t *testing.T) {
	long := strings.Repeat("ab*?\\${0}", 5000)
	many := slices.Repeat(list("x", long, "${1}", "y"), 20)
	m := fields("x", long, "y", "ab")
	for _, variables := range []bool{false, true} {
		for _, op := range []int{api.Fields, api.Envelope, api.Strings, api.Exists} {
			for _, tag := range []int{api.Is, api.Contains, api.Matches} {
				alike(t, variables, ins(asks(op, tag, many, many), asks(op, tag, many, list("*"+long)), act(api.Reject, many[1:]...)), m)
			}
		}
		alike(t, variables, ins(set(api.Upper, long, long), set(api.Length, "x", long), act(api.FileInto, long)), m)
	}
}

func FuzzExec(f *testing.F) {
	f.Add([]byte{1, 1, 0, 4, 1, 0, 11, 0, 3, 13, 0, 0}, "a@b", "h", "v", true)
	f.Add([]byte{12, 0, 1, 8, 0, 3, 5, 1, 0, 11, 0, 2, 14, 0, 0, 2, 0, 0}, "${v}", "v", "*", true)
	f.Add([]byte{10, 255, 1, 9, 0, 0, 3, 200, 0, 7, 0, 1, 6, 0, 2}, "from", "h", "\x00", false)
	f.Fuzz(func(t *testing.T, data []byte, a, b, value string, variables bool) {
		var code []api.Ins
		for ; len(data) >= 3; data = data[3:] {
			i := api.Ins{Op: int(int8(data[0] & 31)), N: int(int8(data[1])), Tag: int(data[2] & 7), Octet: data[2]&8 > 0, At: int(data[2])}
			i.A = list(a, b)[:min(2, int(data[2]>>4&3))]
			i.B = list(b, value, a)[:data[2]>>6&3]
			code = append(code, i)
		}
		m := fields("h", value, a, b, "v", a)
		m.From, m.To = a, value
		alike(t, variables, code, m)
	})
}

// P2.

func TestInstructionsAreNotKept(t *testing.T) {
	bytes := []byte("box-xy@z")
	value := unsafe.String(&bytes[0], len(bytes))
	for _, variables := range []bool{true, false} {
		code := ins(act(api.FileInto, value[:6]), set(api.Plain, "v", value), act(api.Redirect, value))
		got, _, err := mailsieve.Exec(variables, code, fields("h", value))
		before := []string{strings.Clone(got[0].Arg), strings.Clone(got[1].Arg)}
		copy(bytes, "!!!!!!!!")
		if err != nil || got[0].Arg != before[0] || got[1].Arg != before[1] {
			t.Errorf("%v: %v, %v, was %v when the instructions are written into", variables, got, err, before)
		}
		copy(bytes, "box-xy@z")
	}
}

func TestFaultsOfExecAreTheCallers(t *testing.T) {
	for _, code := range [][]api.Ins{ins(turn()), ins(act(api.FileInto, "/")), make([]api.Ins, 401)} {
		_, _, want := mailsieve.Exec(true, code, fields())
		kept := *want.(*api.Fault)
		*want.(*api.Fault) = api.Fault{Err: api.ErrDown, At: -1}
		if _, _, err := mailsieve.Exec(true, code, fields()); !at(err, kept.Err, kept.At) {
			t.Errorf("%v, want %v", err, kept)
		}
	}
}

func TestExecsAtTheSameTime(t *testing.T) {
	code := ins(set(api.Plain, "a", "${a}x"), asks(api.Fields, api.Matches, list("h"), list("*-*")), jumpNot(2), act(api.FileInto, "${1}"), act(api.FileInto, "${a}"))
	var group sync.WaitGroup
	for _, v := range list("a", "b", "c", "d") {
		group.Add(1)
		go func() {
			defer group.Done()
			for range 200 {
				if got, count, err := mailsieve.Exec(true, code, fields("h", v+"-")); err != nil || count != 5 || !slices.Equal(got, acts(into(v), into("x"))) {
					t.Errorf("%s: %v, %d, %v", v, got, count, err)
				}
			}
		}()
	}
	group.Wait()
}
