package mailsieve_test

import (
	"math"
	"slices"
	"strings"
	"testing"

	"mailsieve/api"
)

// numbers are such as are no number of anything.
func numbers() []int { return []int{math.MinInt, -1 << 32, -400, -2, -1, 400, 1 << 32, math.MaxInt} }

// The document's examples.

func TestExamplesOfExec(t *testing.T) {
	does(t,
		done{code: ins(push(1), jumpIf(1), act(api.Redirect, "a@b"), discard()), want: nil, count: 3},
		done{code: ins(act(api.Redirect, "a@b"), turn()), count: 2, e: api.ErrCode, at: 1},
	)
}

// P18: the end, and how many were done.

func TestTheEnd(t *testing.T) {
	box := act(api.FileInto, "a")
	does(t,
		done{code: nil, want: acts(kept()), count: 0},
		done{code: ins(box), want: acts(into("a")), count: 1},
		done{code: ins(discard()), want: nil, count: 1},
		done{code: ins(discard(), box), want: acts(into("a")), count: 2},
		done{code: ins(push(0)), want: acts(kept()), count: 1},
		done{code: ins(stop()), want: acts(kept()), count: 1},
		done{code: ins(stop(), box), want: acts(kept()), count: 1},
		done{code: ins(discard(), stop(), box), want: nil, count: 2},
		done{code: ins(box, discard(), stop()), want: acts(into("a")), count: 3},
		done{code: ins(box, stop(), stop()), want: acts(into("a")), count: 2},
		done{code: ins(jump(1), stop(), box), want: acts(into("a")), count: 2},
		done{code: ins(stop(), api.Ins{Op: 99}, turn(), jump(-1)), want: acts(kept()), count: 1},
		done{code: ins(push(1), jumpIf(2), api.Ins{}, turn(), box), want: acts(into("a")), count: 3},
	)
}

func TestHowManyWereDoneWithAFault(t *testing.T) {
	bad := api.Ins{Op: api.Act, Tag: api.FileInto, A: list("/"), At: 77}
	does(t,
		done{code: ins(bad), count: 1, e: api.ErrBox, at: 77},
		done{code: ins(discard(), bad, discard()), count: 2, e: api.ErrBox, at: 77},
		done{code: ins(jump(2), stop(), stop(), bad), count: 2, e: api.ErrBox, at: 77},
		done{code: ins(api.Ins{}), count: 1, e: api.ErrCode, at: 0},
		done{code: ins(jump(2), stop(), stop(), api.Ins{}), count: 2, e: api.ErrCode, at: 3},
		done{code: ins(push(1), jumpIf(3), stop(), stop(), stop(), turn()), count: 3, e: api.ErrCode, at: 5},
	)
}

func TestInstructionsAre400AtTheMost(t *testing.T) {
	many := slices.Repeat(ins(discard()), 401)
	end := slices.Clone(many)
	end[0], end[399] = jump(398), act(api.FileInto, "a")
	far := slices.Clone(many)
	far[0] = jump(399)
	does(t,
		done{code: many[:399], want: nil, count: 399},
		done{code: many[:400], want: nil, count: 400},
		done{code: many, count: 0, e: api.ErrCode, at: 400},
		done{code: end[:400], want: acts(into("a")), count: 2},
		done{code: end, count: 0, e: api.ErrCode, at: 400},
		done{code: far[:400], want: acts(kept()), count: 1},
		done{code: far[:399], count: 1, e: api.ErrCode, at: 0},
		done{code: slices.Repeat(ins(stop()), 401), count: 0, e: api.ErrCode, at: 400},
		done{code: slices.Repeat(ins(stop()), 400), want: acts(kept()), count: 1},
		done{code: make([]api.Ins, 400), count: 1, e: api.ErrCode, at: 0},
		done{code: make([]api.Ins, 401), count: 0, e: api.ErrCode, at: 400},
		done{code: make([]api.Ins, 10000), count: 0, e: api.ErrCode, at: 400},
	)
}

func TestInstructionsThatAreNone(t *testing.T) {
	for _, op := range append(numbers(), 0, 15, 16, 255) {
		wrong(t, api.Ins{Op: op}, api.Ins{Op: op, Tag: 1, N: 1, A: list("a"), B: list("b")})
	}
}

// P18: values.

func TestPush(t *testing.T) {
	pushes(t, fields(), 1, push(1))
	pushes(t, fields(), 0, push(0))
	for _, n := range append(numbers(), 2, 3) {
		wrong(t, push(n))
	}
}

func TestNot(t *testing.T) {
	does(t,
		done{code: ins(push(1), turn(), jumpIf(1), discard()), want: nil, count: 4},
		done{code: ins(push(0), turn(), jumpIf(1), discard()), want: acts(kept()), count: 3},
		done{code: ins(push(0), turn(), turn(), jumpIf(1), discard()), want: nil, count: 5},
		done{code: ins(push(1), push(0), turn(), jumpNot(1), jumpNot(1), discard()), want: nil, count: 6},
		done{code: ins(push(0), push(0), turn(), jumpNot(1), jumpNot(1), discard()), want: acts(kept()), count: 5},
		done{code: ins(turn()), count: 1, e: api.ErrCode, at: 0},
		done{code: ins(push(1), jumpIf(0), turn()), count: 3, e: api.ErrCode, at: 2},
	)
}

func TestValuesAreEightAtTheMost(t *testing.T) {
	eight := slices.Repeat(ins(push(1)), 8)
	row := done{code: slices.Concat(eight, slices.Repeat(ins(jumpIf(0)), 8), ins(discard())), want: nil, count: 17}
	does(t, row, done{code: eight, want: acts(kept()), count: 8}, done{code: append(slices.Clone(eight), turn(), turn()), want: acts(kept()), count: 10})
	for _, i := range ins(push(0), push(1), exists(), exists("a"), size(api.Over, 1), asks(api.Fields, api.Is, nil, nil), asks(api.Envelope, api.Is, list("from"), list("a")), asks(api.Strings, api.Matches, list("a"), list("*"))) {
		does(t,
			done{code: append(slices.Clone(eight[1:]), i), want: acts(kept()), count: 8},
			done{code: append(slices.Clone(eight), i), count: 9, e: api.ErrCode, at: 8},
			done{code: slices.Concat(eight, ins(jumpIf(0), i, jumpNot(0), i, i)), count: 13, e: api.ErrCode, at: 12},
		)
	}
}

func TestTheLastValueIsTaken(t *testing.T) {
	does(t,
		done{code: ins(push(0), push(1), jumpIf(1), stop(), jumpIf(1), discard()), want: nil, count: 5},
		done{code: ins(push(1), push(0), jumpIf(1), jumpIf(1), discard()), want: acts(kept()), count: 4},
		done{code: ins(push(1), jumpIf(0), jumpIf(0)), count: 3, e: api.ErrCode, at: 2},
		done{code: ins(push(1), jumpNot(0), jumpNot(0)), count: 3, e: api.ErrCode, at: 2},
		done{code: ins(jumpIf(0)), count: 1, e: api.ErrCode, at: 0},
		done{code: ins(jumpNot(0)), count: 1, e: api.ErrCode, at: 0},
	)
}

// P18: jumps.

func TestJumps(t *testing.T) {
	a, b := act(api.FileInto, "a"), act(api.FileInto, "b")
	does(t,
		done{code: ins(jump(0), a, b), want: acts(into("a"), into("b")), count: 3},
		done{code: ins(jump(1), a, b), want: acts(into("b")), count: 2},
		done{code: ins(jump(2), a, b), want: acts(kept()), count: 1},
		done{code: ins(jump(3), a, b), count: 1, e: api.ErrCode, at: 0},
		done{code: ins(jump(0)), want: acts(kept()), count: 1},
		done{code: ins(jump(1)), count: 1, e: api.ErrCode, at: 0},
		done{code: ins(a, jump(-1)), count: 2, e: api.ErrCode, at: 1},
		done{code: ins(jump(1), a, jump(1), a, jump(1), a, b), want: acts(into("b")), count: 4},
	)
	for _, taken := range []int{0, 1} {
		for _, value := range []int{0, 1} {
			go1 := func(n int) api.Ins { return []api.Ins{jumpNot(n), jumpIf(n)}[taken] }
			row := done{code: ins(push(value), go1(1), a, b), want: acts(into("a"), into("b")), count: 4}
			end := done{code: ins(push(value), go1(2), a, b), want: row.want, count: 4}
			if value == taken {
				row.want, row.count = acts(into("b")), 3
				end.want, end.count = acts(kept()), 2
			}
			does(t, row, end,
				done{code: ins(push(value), go1(0), a, b), want: acts(into("a"), into("b")), count: 4},
				done{code: ins(push(value), go1(3), a, b), count: 2, e: api.ErrCode, at: 1},
				done{code: ins(push(value), go1(-1), a, b), count: 2, e: api.ErrCode, at: 1},
				done{code: ins(push(value), go1(0)), want: acts(kept()), count: 2},
				done{code: ins(push(value), go1(1)), count: 2, e: api.ErrCode, at: 1},
			)
		}
	}
	for _, n := range append(numbers(), 2) {
		wrong(t, jump(n), jumpIf(n), jumpNot(n))
	}
}

// P18: tests.

func TestMatching(t *testing.T) {
	m := fields("h", "aBc", "H", "x", "i", "")
	const f, e, s = api.Fields, api.Envelope, api.Strings
	octet := func(i api.Ins) api.Ins {
		i.Octet = true
		return i
	}
	pushes(t, m, 1,
		asks(f, api.Is, list("h"), list("AbC")), asks(f, api.Is, list("H"), list("q", "X")), octet(asks(f, api.Is, list("H"), list("aBc"))), asks(f, api.Contains, list("q", "i"), list("")), asks(f, api.Contains, list("h"), list("bC")),
		octet(asks(f, api.Contains, list("h"), list("Bc"))), asks(f, api.Matches, list("h"), list("A?c")), octet(asks(f, api.Matches, list("h"), list("*B*"))),
		asks(e, api.Is, list("from"), list("FROM@a")), asks(e, api.Is, list("To"), list("to@b")), octet(asks(e, api.Is, list("TO"), list("to@b"))), asks(e, api.Matches, list("from", "to"), list("*@b")), asks(e, api.Is, list("cc", "to"), list("to@b")),
		asks(s, api.Is, list("a", "B"), list("b")), octet(asks(s, api.Is, list("a", "B"), list("b", "a"))), asks(s, api.Contains, list("xyz"), list("Y")), asks(s, api.Matches, list(""), list("*")), asks(s, api.Is, list(""), list("")),
	)
	pushes(t, m, 0,
		asks(f, api.Is, list("h"), list("ab")), octet(asks(f, api.Is, list("h"), list("abc"))), asks(f, api.Contains, list("q"), list("")), asks(f, api.Matches, list("h"), list("b*")), octet(asks(f, api.Matches, list("h"), list("*b*"))), octet(asks(f, api.Contains, list("h"), list("ab"))),
		asks(e, api.Is, list("from"), list("to@b")), octet(asks(e, api.Is, list("from"), list("FROM@a"))), asks(e, api.Contains, list("", "cc", "from ", "h"), list("")),
		asks(s, api.Is, list("a"), list("b")), octet(asks(s, api.Is, list("a"), list("A"))), asks(s, api.Contains, list("a", "b"), list("ab")), asks(s, api.Matches, list("a"), list("??")),
	)
	for _, op := range []int{f, e, s} {
		for _, tag := range []int{api.Is, api.Contains, api.Matches} {
			pushes(t, m, 0, asks(op, tag, nil, nil), asks(op, tag, list("h", "from"), nil), asks(op, tag, nil, list("*", "")), octet(asks(op, tag, nil, list(""))))
		}
		for _, tag := range append(numbers(), 0, 4) {
			wrong(t, asks(op, tag, list("h", "from"), list("x")), asks(op, tag, nil, nil), octet(asks(op, tag, list("h"), list("x"))))
		}
	}
}

func TestExistsAndSize(t *testing.T) {
	m := fields("h", "", "I", "x")
	pushes(t, m, 1, exists(), exists("h"), exists("H", "i", "h"), api.Ins{Op: api.Exists, A: list("i"), B: list("q"), Tag: 99, N: -1}, size(api.Over, 99), size(api.Under, 101), size(api.Over, -1), size(api.Over, math.MinInt), size(api.Under, math.MaxInt))
	pushes(t, m, 0, exists(""), exists("q"), exists("h", "q"), exists("q", "h"), size(api.Over, 100), size(api.Over, math.MaxInt), size(api.Under, 100), size(api.Under, 99), size(api.Under, math.MinInt))
	pushes(t, api.Message{Size: -5}, 1, exists(), size(api.Over, -6), size(api.Under, 0))
	pushes(t, api.Message{Size: math.MinInt}, 1, size(api.Under, math.MaxInt), size(api.Under, math.MinInt+1))
	for _, tag := range append(numbers(), 0, 3) {
		wrong(t, size(tag, 1), size(tag, 1000))
	}
}

// P18: actions.

func TestActs(t *testing.T) {
	long := strings.Repeat("x", 49)
	does(t,
		done{code: ins(act(api.Keep)), want: acts(kept()), count: 1},
		done{code: ins(discard(), act(api.Keep), act(api.Keep, "a"), act(api.Keep, "/", "b")), want: acts(kept()), count: 4},
		done{code: ins(act(api.FileInto, "a", "/"), act(api.Redirect, "a@b", "c"), act(api.Keep), act(api.FileInto, "a")), want: acts(into("a"), to("a@b"), kept()), count: 4},
		done{code: ins(act(api.Reject, long), act(api.Reject, long[1:])), want: acts(rejected(long[1:])), count: 2},
		done{code: ins(act(api.Reject, "")), want: acts(rejected("")), count: 1},
		done{code: ins(discard(), act(api.Reject, "no")), want: acts(rejected("no")), count: 2},
	)
	for _, tag := range append(numbers(), 0, 5) {
		wrong(t, act(tag), act(tag, "a"), act(tag, "a@b"))
	}
	for _, tag := range []int{api.FileInto, api.Redirect, api.Reject} {
		wrong(t, act(tag), api.Ins{Op: api.Act, Tag: tag, A: []string{}, B: list("a@b"), At: 77})
	}
}

func TestFaultsOfActs(t *testing.T) {
	here := func(kind int, arg string) api.Ins { return api.Ins{Op: api.Act, Tag: kind, A: list(arg), At: 77} }
	const six = 6
	var boxes []api.Ins
	for _, b := range list("1", "2", "3", "4", "5", "6") {
		boxes = append(boxes, act(api.FileInto, b))
	}
	does(t,
		done{code: ins(here(api.FileInto, "")), count: 1, e: api.ErrBox, at: 77},
		done{code: ins(here(api.FileInto, ".a")), count: 1, e: api.ErrBox, at: 77},
		done{code: ins(here(api.FileInto, "seventeen-letters")), count: 1, e: api.ErrBox, at: 77},
		done{code: ins(here(api.Redirect, "")), count: 1, e: api.ErrAddr, at: 77},
		done{code: ins(here(api.Redirect, "a@b@c")), count: 1, e: api.ErrAddr, at: 77},
		done{code: ins(act(api.Keep), here(api.Reject, "no")), count: 2, e: api.ErrConflict, at: 77},
		done{code: ins(act(api.Reject, "no"), here(api.Reject, "nay")), count: 2, e: api.ErrConflict, at: 77},
		done{code: ins(act(api.Reject, "no"), api.Ins{Op: api.Act, Tag: api.Keep, At: 77}), count: 2, e: api.ErrConflict, at: 77},
		done{code: ins(act(api.Reject, "no"), here(api.FileInto, "a")), count: 2, e: api.ErrConflict, at: 77},
		done{code: append(slices.Clone(boxes), here(api.FileInto, "1")), want: acts(into("1"), into("2"), into("3"), into("4"), into("5"), into("6")), count: six + 1},
		done{code: append(slices.Clone(boxes), here(api.FileInto, "7")), count: six + 1, e: api.ErrActions, at: 77},
		done{code: append(slices.Clone(boxes), api.Ins{Op: api.Act, Tag: api.Keep, At: 77}), count: six + 1, e: api.ErrActions, at: 77},
	)
	for _, place := range append(numbers(), 0) {
		does(t, done{code: ins(discard(), api.Ins{Op: api.Act, Tag: api.FileInto, A: list("/"), At: place}), count: 2, e: api.ErrBox, at: place})
	}
}

// P18: strings and variables.

func TestSets(t *testing.T) {
	box := func(s string) api.Ins { return act(api.FileInto, s) }
	x := strings.Repeat("x", 60)
	does(t,
		done{code: ins(set(api.Plain, "v", "aB"), box("${v}${V}")), want: acts(into("aBaB")), count: 2},
		done{code: ins(set(api.Lower, "v", "aB"), box("${v}")), want: acts(into("ab")), count: 2},
		done{code: ins(set(api.Upper, "v", "aB"), box("${v}")), want: acts(into("AB")), count: 2},
		done{code: ins(set(api.Length, "v", "aB"), box("${v}")), want: acts(into("2")), count: 2},
		done{code: ins(set(api.Plain, "v", x), set(api.Length, "v", "${v}"), box("${v}")), want: acts(into("48")), count: 3},
		done{code: ins(set(api.Length, "v", x), box("${v}")), want: acts(into("60")), count: 2},
		done{code: ins(set(api.Plain, "v", "a"), set(api.Plain, "v", "${v}b"), box("${v}")), want: acts(into("ab")), count: 3},
		done{code: ins(set(api.Plain, "V", "a"), box("x${v}${V}")), want: acts(into("x")), count: 2},
		done{code: ins(set(api.Plain, "w", "v"), set(api.Plain, "${w}", "a"), box("x${v}")), want: acts(into("x")), count: 3},
		done{code: ins(set(api.Plain, "1", "a"), set(api.Plain, "", "b"), set(api.Plain, "é", "c"), box("x${1}")), want: acts(into("x")), count: 4},
		done{code: ins(api.Ins{Op: api.Set, A: list("v", "w"), B: list("a", "b")}, box("${v}${w}")), want: acts(into("a")), count: 2},
		done{code: ins(set(api.Plain, "v", "a")), want: acts(kept()), count: 1},
	)
	for _, tag := range []int{api.Plain, api.Lower, api.Upper, api.Length} {
		wrong(t, api.Ins{Op: api.Set, Tag: tag}, api.Ins{Op: api.Set, Tag: tag, A: list("v")}, api.Ins{Op: api.Set, Tag: tag, B: list("v")}, api.Ins{Op: api.Set, Tag: tag, A: list("v"), B: []string{}})
	}
	for _, tag := range append(numbers(), 4) {
		wrong(t, set(tag, "v", "a"))
	}
}

func TestStringsOfInstructions(t *testing.T) {
	m := fields("x", "yx", "w", "${v}")
	v := set(api.Plain, "v", "x")
	does(t,
		done{code: ins(v, asks(api.Fields, api.Is, list("${v}"), list("y${v}")), jumpIf(1), discard()), m: m, want: acts(kept()), count: 3},
		done{code: ins(v, asks(api.Strings, api.Is, list("a${v}"), list("${v}", "a${V}")), jumpIf(1), discard()), m: m, want: acts(kept()), count: 3},
		done{code: ins(v, exists("${v}", "${v}${none}"), jumpIf(1), discard()), m: m, want: acts(kept()), count: 3},
		done{code: ins(set(api.Plain, "v", "from"), asks(api.Envelope, api.Contains, list("${v}"), list("")), jumpIf(1), discard()), m: m, want: nil, count: 4},
		done{code: ins(set(api.Plain, "v", "FROM"), asks(api.Envelope, api.Is, list("from"), list("${v}@a")), jumpIf(1), discard()), m: m, want: acts(kept()), count: 3},
		done{code: ins(asks(api.Fields, api.Matches, list("x"), list("z*", "*x")), asks(api.Fields, api.Matches, list("x"), list("z*")), asks(api.Strings, api.Is, list("a"), list("a")), act(api.FileInto, "${1}_${0}_${2}")), m: m, want: acts(into("y_yx_")), count: 4},
		done{code: ins(asks(api.Envelope, api.Matches, list("to"), list("*@*")), act(api.Redirect, "${2}@${1}"), act(api.Reject, "${0}")), m: m, count: 3, e: api.ErrConflict},
		done{code: ins(asks(api.Strings, api.Matches, list(strings.Repeat("a", 2000)), list("*")), set(api.Length, "n", "${1}"), act(api.FileInto, "${n}")), m: m, want: acts(into("1024")), count: 3},
	)
}

func TestStringsWithoutVariables(t *testing.T) {
	m := fields("${v}", "${0}", "w", "a${v}b")
	long := strings.Repeat("a", 1100)
	for i, c := range []done{
		{code: ins(set(api.Plain, "v", "x"), asks(api.Fields, api.Is, list("${v}"), list("${0}")), jumpIf(1), discard(), act(api.Redirect, "${v}@${1}")), m: m, want: acts(to("${v}@${1}")), count: 4},
		{code: ins(asks(api.Fields, api.Matches, list("w"), list("a*b")), jumpIf(1), discard(), act(api.Reject, "${1}")), m: m, want: acts(rejected("${1}")), count: 3},
		{code: ins(act(api.FileInto, "${v}")), m: m, want: acts(kept()), count: 1, e: api.ErrBox},
		{code: ins(exists("${v}"), jumpIf(1), discard()), m: m, want: acts(kept()), count: 2},
		{code: ins(asks(api.Strings, api.Is, list(long+"b"), list(long+"c")), jumpNot(1), discard()), m: m, want: acts(kept()), count: 2},
	} {
		got, count, err := exec(t, false, c.code, c.m)
		if !slices.Equal(got, c.want) || count != c.count || !at(err, c.e, c.at) {
			t.Errorf("row %d: %v, %d, %v, want %v, %d, error %d at %d", i, got, count, err, c.want, c.count, c.e, c.at)
		}
	}
}

// Fields that an instruction does not look at mean nothing.
func TestFieldsThatAreNotAsked(t *testing.T) {
	more := func(i api.Ins) api.Ins {
		i.A, i.B, i.Octet, i.At = list("/", "q"), list("*"), true, math.MinInt
		return i
	}
	odd := func(i api.Ins) api.Ins {
		i = more(i)
		i.Tag = math.MaxInt
		return i
	}
	free := func(i api.Ins) api.Ins {
		i = odd(i)
		i.N = math.MinInt
		return i
	}
	keep := act(api.Keep)
	keep.N, keep.B = -1, list("b")
	does(t,
		done{code: ins(odd(push(1)), odd(jumpIf(1)), odd(jump(0)), odd(push(0)), free(turn()), odd(jumpNot(0)), odd(jump(1)), free(stop()), free(discard()), free(stop()), stop()), want: nil, count: 8},
		done{code: ins(more(size(api.Over, 1)), more(keep)), want: acts(kept()), count: 2},
	)
}
