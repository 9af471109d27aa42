package mailsieve_test

import (
	"fmt"
	"maps"
	"slices"
	"strings"
	"testing"

	"mailsieve/api"
	"mailsieve/mailsieve"
	"mailsieve/plain"
)

// moment is a disk between two calls.
type moment struct {
	durable files
	waiting []task
}

func (m moment) drive() *drive {
	d := newDrive(m.durable)
	d.waiting = slices.Clone(m.waiting)
	return d
}

func (m moment) key() string { return fmt.Sprintf("%q %q", m.durable, m.waiting) }

// losses are what files may be there when the disk went down: of what waits each thing done, or not, or of a Write a beginning (where several things wait, some of its beginnings, as all would be too many).
func (m moment) losses() []files {
	may := []files{m.durable}
	for _, k := range m.waiting {
		var more []files
		for _, f := range may {
			for _, kept := range k.kept(len(m.waiting) == 1) {
				next := maps.Clone(f)
				kept.do(next)
				more = append(more, next)
			}
		}
		may = append(may, more...)
	}
	return may
}

// kept is what may be left of a task, if anything is: of a Write each beginning, or some if not all are asked for.
func (k task) kept(each bool) []task {
	list := []task{k}
	if k.kind != "write" {
		return list
	}
	for n := range len(k.data) {
		if each || n == 0 || n == len(k.data)/2 || n == len(k.data)-1 {
			k.data = list[0].data[:n]
			list = append(list, k)
		}
	}
	return list
}

// walkDown goes through the moments to which a delivery and recoveries can come (as losses has them), wherever and however often the disk goes down or is in trouble, and asks at each of them for a Recover that says nil, and one of two outcomes.
type walkDown struct {
	*testing.T
	none, all files
	seen      map[string]bool
	next      []moment
	outcomes  [2]int
}

func (w *walkDown) meet(m moment) {
	if key := m.key(); !w.seen[key] {
		w.seen[key] = true
		w.next = append(w.next, m)
	}
}

// troubled does something on a disk that is in trouble at each of its calls in turn.
func (w *walkDown) troubled(from moment, what func(d api.Disk) error) {
	for trouble := 0; ; trouble++ {
		for _, done := range []int{-1, 0, 4, 7} {
			d := from.drive()
			d.trouble, d.done = trouble, done
			err := what(d)
			if trouble >= len(d.calls) {
				return
			}
			if err != errTrouble {
				w.Fatalf("it said %v behind %q", err, d.calls)
			}
			w.meet(moment{d.durable, d.waiting})
		}
	}
}

func (w *walkDown) recovered(from moment) {
	d := from.drive()
	err := mailsieve.Recover(d)
	isNone, isAll := maps.Equal(d.durable, w.none), maps.Equal(d.durable, w.all)
	if err != nil || len(d.waiting) > 0 || !isNone && !isAll || d.spoilt {
		w.Fatalf("from %s: Recover = %v behind %q; durable %q, not durable %q", from.key(), err, d.calls, d.durable, d.waiting)
	}
	if isNone {
		w.outcomes[0]++
	}
	if isAll {
		w.outcomes[1]++
	}
}

// goesDown walks through a delivery to a disk with these files.
func goesDown(t *testing.T, was files, id string, list []api.Action, text string) {
	t.Helper()
	asks, err := asked(id, list, text)
	if err != nil {
		t.Fatal(err)
	}
	w := &walkDown{T: t, none: was.shown(), all: was.shown().with(asks), seen: map[string]bool{}}
	w.troubled(moment{durable: was}, func(d api.Disk) error { return mailsieve.Deliver(d, id, list, text) })
	for len(w.next) > 0 {
		m := w.next[0]
		w.next = w.next[1:]
		w.recovered(m)
		w.troubled(m, mailsieve.Recover)
		for _, f := range m.losses() {
			w.meet(moment{durable: f})
		}
	}
	t.Logf("%d moments", len(w.seen))
	if w.outcomes[0] == 0 || w.outcomes[1] == 0 {
		t.Errorf("%q, %v: it is always the same: %v", was, list, w.outcomes)
	}
}

// P22: wherever the disk goes down.

func TestOneFileGoesDown(t *testing.T) {
	for _, text := range []string{"", "t", "text\n"} {
		goesDown(t, nil, "m", acts(kept()), text)
		goesDown(t, files{"inbox/m": "old", "inbox/m2": "o"}, "m", acts(kept()), text)
		goesDown(t, files{"out/m.0": "to x\nold"}, "m", acts(rejected("")), text)
	}
}

func TestSeveralFilesGoDown(t *testing.T) {
	goesDown(t, files{"inbox/m1": "an old text", "inbox/m2": "another"}, "m1", acts(kept(), into("work.x"), to("a@b")), "new")
	goesDown(t, files{"box/a/m": "old", "else": "e"}, "m", acts(into("a"), into("a"), kept()), "t")
}

func TestFilesOfTheStoresOwnGoDown(t *testing.T) {
	goesDown(t, files{".": "a", ".x": "", ".journal": "b\nc"}, "m", acts(kept()), "t")
	goesDown(t, files{".journal": "", "..": "x", "inbox/m": "o"}, "m", acts(kept(), to("a")), "t")
}

// eachDown goes through the disks that package plain knows: down, or full, behind each number of calls.
func eachDown(t *testing.T, was []api.File, id string, list []api.Action, text string, each func(b *plain.Box, none, all string)) {
	t.Helper()
	b := plain.NewBox(was)
	none := fmt.Sprint(b.Files())
	if e := b.Deliver(id, list, text, -1, -1, 0, 0); e != api.OK {
		t.Fatal(e)
	}
	all := fmt.Sprint(b.Files())
	for left := range 2*len(list) + 8 {
		for kept := range 1 << (len(list) + 1) {
			for part := range 24 {
				for _, full := range []int{-1, left} {
					down, want := left, api.ErrDown
					if full >= 0 {
						down, want = -1, api.ErrFull
					}
					b := plain.NewBox(was)
					e := b.Deliver(id, list, text, down, full, kept*0x1001, part*13)
					if e == api.OK {
						b.Lose(kept, part)
						if s := fmt.Sprint(b.Files()); s != all {
							t.Fatalf("P20: behind %d calls nil, and the files are %s", left, s)
						}
						continue
					}
					if e != want {
						t.Fatalf("P21: behind %d calls %d, want %d", left, e, want)
					}
					each(b, none, all)
				}
			}
		}
	}
}

func TestDisksGoDown(t *testing.T) {
	was := []api.File{{Name: "inbox/m1", Data: "an old text"}, {Name: "out/m1.3", Data: "old"}, {Name: "inbox/m2", Data: "another"}}
	list := acts(kept(), into("work.x"), to("a@b"), rejected(""))
	seen := map[string]int{}
	eachDown(t, was, "m1", list, "a new text", func(b *plain.Box, none, all string) {
		if e := b.Recover(-1, -1, 0, 0); e != api.OK {
			t.Fatalf("Recover = %d", e)
		}
		b.Lose(0, 0)
		s := fmt.Sprint(b.Files())
		if s != none && s != all {
			t.Fatalf("the files are %s", s)
		}
		seen[s]++
	})
	if len(seen) != 2 {
		t.Errorf("it is always the same: %v", seen)
	}
}

func TestRecoveriesGoDownAgainAndAgain(t *testing.T) {
	was := []api.File{{Name: "box/a/m", Data: "old"}, {Name: ".x", Data: "left"}, {Name: ".y", Data: ""}}
	n := 0
	eachDown(t, was, "m", acts(into("a"), kept(), to("")), "t", func(b *plain.Box, _, _ string) {
		want := []string{"[{box/a/m old}]", "[{box/a/m t} {inbox/m t} {out/m.2 to \nt}]"}
		for range 6 {
			n++
			left, full := n*7%19, -1
			if n%3 == 0 {
				left, full = -1, left
			}
			if e := b.Recover(left, full, n*31%64, n*17); e == api.OK {
				break
			} else if want := map[bool]api.Errno{true: api.ErrFull, false: api.ErrDown}[full >= 0]; e != want {
				t.Fatalf("Recover = %d, want %d", e, want)
			}
			if n%5 == 0 {
				b.Lose(n*13%64, n)
			}
		}
		if e := b.Recover(-1, -1, 0, 0); e != api.OK {
			t.Fatalf("Recover = %d", e)
		}
		if s := fmt.Sprint(b.Files()); !slices.Contains(want, s) {
			t.Fatalf("the files are %s", s)
		}
	})
}

// P22: nothing went down.

func TestRecoverOfNothing(t *testing.T) {
	for _, was := range []files{nil, {"inbox/m": "t"}, {"": "a", "a.": "b", "a/.b": "c", "inbox/.journal": "d", " .": "e"}} {
		d := newDrive(was)
		d.waiting = []task{{kind: "write", name: "else", data: "e"}}
		want := files{"else": "e"}.with(was)
		for range 2 {
			if err := mailsieve.Recover(d); err != nil || len(d.waiting) > 0 || !maps.Equal(d.durable, want) {
				t.Errorf("Recover = %v, %q, not durable %q, want %q", err, d.durable, d.waiting, want)
			}
		}
	}
}

func TestFilesOfTheStoresOwnAreGone(t *testing.T) {
	was := files{".": "a", "..": "b", ".journal": "c", ".journal/": "d\n", ".\x00": "", ".é": "0 0\n", "./inbox/m": "e", "inbox/m": "t", "x.": "f"}
	d := newDrive(was)
	if err := mailsieve.Recover(d); err != nil || len(d.waiting) > 0 || !maps.Equal(d.durable, files{"inbox/m": "t", "x.": "f"}) {
		t.Errorf("Recover = %v, %q, not durable %q", err, d.durable, d.waiting)
	}
}

func TestDeliveriesThatWereAnsweredStay(t *testing.T) {
	d := newDrive(nil)
	if err := mailsieve.Deliver(d, "m1", acts(kept(), to("a")), "first"); err != nil {
		t.Fatal(err)
	}
	want := maps.Clone(d.durable)
	d.trouble, d.done = len(d.calls)+4, 4 // in the midst of its files
	if err := mailsieve.Deliver(d, "m2", acts(kept(), to("b")), "second"); err != errTrouble {
		t.Fatal(err)
	}
	if err := mailsieve.Recover(d); err != nil || !maps.Equal(d.durable, want.with(files{"inbox/m2": "second", "out/m2.1": "to b\nsecond"})) {
		t.Errorf("Recover = %v, %q", err, d.durable)
	}
}

// Recover says what the disk says, at each of its calls.
func TestRecoverSaysWhatTheDiskSays(t *testing.T) {
	was := files{".x": "junk", ".y": "", "inbox/a": "t"}
	for trouble := 0; ; trouble++ {
		d := newDrive(was)
		d.trouble, d.done = trouble, -1
		err := mailsieve.Recover(d)
		if trouble >= len(d.calls) {
			if trouble < 4 {
				t.Errorf("the disk was asked %d times alone", trouble)
			}
			return
		}
		if err != errTrouble || len(d.calls) != trouble+1 {
			t.Errorf("Recover = %v behind %q", err, d.calls)
		}
		if err := mailsieve.Recover(d); err != nil || !maps.Equal(d.durable, files{"inbox/a": "t"}) {
			t.Errorf("Recover, again, = %v, %q", err, d.durable)
		}
	}
}

// own are the files of the store's own that a delivery leaves when the disk goes down at this call, all being kept.
func own(t *testing.T, trouble int) files {
	t.Helper()
	d := newDrive(nil)
	d.trouble, d.done = trouble, 0
	if err := mailsieve.Deliver(d, "m", acts(kept(), to("a")), "text"); err != errTrouble {
		t.Fatalf("%v behind %q", err, d.calls)
	}
	left := d.now()
	maps.DeleteFunc(left, func(name, _ string) bool { return !strings.HasPrefix(name, ".") })
	return left
}

// What a delivery leaves is known by its bytes: when one of them is another, or it lies elsewhere, it says nothing.
func TestJournalsThatAreChanged(t *testing.T) {
	left := own(t, 2)
	if len(left) != 1 {
		t.Fatalf("%q", left)
	}
	for name, data := range left {
		want, _ := asked("m", acts(kept(), to("a")), "text")
		recovers(t, name, data, want)
		for i := range len(data) {
			recovers(t, name, data[:i], nil)
			recovers(t, name, data[i+1:], nil)
			for bit := range 8 {
				recovers(t, name, data[:i]+string([]byte{data[i] ^ 1<<bit})+data[i+1:], nil)
			}
		}
		for _, more := range []string{"\n", "0:", "1:3", data} {
			recovers(t, name, data+more, nil)
		}
		recovers(t, name+"x", data, nil)
		recovers(t, ".x", data, nil)
	}
}

func recovers(t *testing.T, name, data string, want files) {
	t.Helper()
	was := files{"inbox/m": "old", "inbox/n": "o"}
	d := newDrive(was.with(files{name: data}))
	if err := mailsieve.Recover(d); err != nil || len(d.waiting) > 0 || !maps.Equal(d.durable, was.with(want)) {
		t.Errorf("%q in %q: Recover = %v, %q, want %q", data, name, err, d.durable, was.with(want))
	}
}
