package mailsieve_test

import (
	"errors"
	"maps"
	"math/rand"
	"slices"
	"strings"
	"sync"
	"testing"
	"unsafe"

	"mailsieve/api"
	"mailsieve/mailsieve"
	"mailsieve/plain"
)

// listed is files as package plain takes them.
func (f files) listed() []api.File {
	var l []api.File
	for _, name := range slices.Sorted(maps.Keys(f)) {
		l = append(l, api.File{Name: name, Data: f[name]})
	}
	return l
}

// durable is what a box has.
func durable(b *plain.Box) files {
	f := files{}
	for _, file := range b.Files() {
		f[file.Name] = file.Data
	}
	return f
}

func (c chance) id() string { return c.of("m", "M_1", "m2", "12345678", "", "a-b", "123456789") }

func (c chance) action() api.Action {
	return api.Action{Kind: c.number(1, 1, 2, 2, 2, 3, 3, 4, 4, 4, 0, 5, -1), Arg: c.of("a", "b.c", "a@b", "x", c.string())}
}

func (c chance) actions() []api.Action {
	var l []api.Action
	for range c.Intn(8) {
		l = append(l, c.action())
	}
	return l
}

func (c chance) files() files {
	f := files{}
	for range c.Intn(5) {
		f[c.of("inbox/m", "box/a/m", "out/m.1", "inbox/else", ".journal", ".journal_", ".x", ".", "..", c.string())] = c.of("old", "", "a\nb", c.string())
	}
	return f
}

// troubles tells a box when to go down, or to be full, or neither.
func (c chance) troubles() (left, full, kept, part int) {
	return c.number(-1, c.Intn(12)), c.number(-1, -1, c.Intn(12)), int(c.Uint64()), c.Intn(5000) - 1000
}

// one delivers something, and recovers as often as is needed; it tells what must be durable then.
func one(t *testing.T, c chance, b *plain.Box, was files) files {
	t.Helper()
	id, list, text := c.id(), c.actions(), c.string()
	if c.Intn(3) > 0 {
		id, list = "m", acts(kept(), into("a"), to(c.string()), rejected(c.string()))[:c.Intn(5)]
	}
	asks, fault := asked(id, list, text)
	left, full, kept, part := c.troubles()
	e := b.Deliver(id, list, text, left, full, kept, part)
	got := durable(b)
	switch {
	case fault != nil:
		if error(e) != fault || !maps.Equal(got, was) {
			t.Fatalf("Deliver(%q, %v, %q) to %q = %d, %q, want %v", id, list, text, was, e, got, fault)
		}
		return was
	case e == api.OK:
		if !maps.Equal(got, was.with(asks)) {
			t.Fatalf("Deliver(%q, %v, %q) to %q: %q", id, list, text, was, got)
		}
		return got
	case e != api.ErrDown && e != api.ErrFull:
		t.Fatalf("Deliver(%q, %v, %q) to %q = %d", id, list, text, was, e)
	}
	for again(t, c, b) {
		if c.Intn(4) == 0 {
			b.Lose(int(c.Uint64()), c.Intn(5000))
		}
	}
	got = durable(b)
	if !maps.Equal(got, was.shown()) && !maps.Equal(got, was.shown().with(asks)) {
		t.Fatalf("Deliver(%q, %v, %q) to %q = %d; recovered: %q", id, list, text, was, e, got)
	}
	return got
}

// again: must a Recover come again?
func again(t *testing.T, c chance, b *plain.Box) bool {
	t.Helper()
	e := b.Recover(c.troubles())
	if e != api.OK && e != api.ErrDown && e != api.ErrFull {
		t.Fatalf("Recover = %d", e)
	}
	return e != api.OK
}

func TestAnyDeliveriesOneBehindTheOther(t *testing.T) {
	c := chance{rand.New(rand.NewSource(7))}
	for range 2000 {
		was := c.files()
		b := plain.NewBox(was.listed())
		for range 10 {
			was = one(t, c, b, was)
			if c.Intn(3) == 0 {
				b.Lose(int(c.Uint64()), c.Intn(5000))
			}
			if got := durable(b); !maps.Equal(got, was) {
				t.Fatalf("%q was durable, and is %q", was, got)
			}
		}
	}
}

func TestFilesOfAnyBytes(t *testing.T) {
	random := rand.New(rand.NewSource(8))
	some := func(n int) string {
		b := make([]byte, random.Intn(n))
		random.Read(b)
		return string(b)
	}
	for range 3000 {
		f := files{}
		for range random.Intn(6) {
			f["."+some(4)] = some(100)
			f[some(4)] = some(10)
		}
		asksAny(t, f, some(3), acts(api.Action{Kind: random.Intn(6), Arg: some(3)}, rejected(some(20))), some(50))
	}
}

// asksAny asks what P1, P2, P19, P20 and P22 say of a disk of any files.
func asksAny(t *testing.T, was files, id string, list []api.Action, text string) {
	t.Helper()
	asks, fault := asked(id, list, text)
	got, err := deliver(t, was, id, list, text)
	if err != fault || !maps.Equal(got, was.with(asks)) {
		t.Fatalf("Deliver(%q, %v, %q) to %q = %v, %q", id, list, text, was, err, got)
	}
	d := newDrive(was)
	if err := mailsieve.Recover(d); err != nil || len(d.waiting) > 0 || d.spoilt || !maps.Equal(d.durable, was.shown()) {
		t.Fatalf("Recover of %q = %v, %q", was, err, d.durable)
	}
}

func FuzzDeliver(f *testing.F) {
	f.Add("m", 1, "a", "text", ".journal", "3 0\n1:m", 3, -1, 1, 5)
	f.Add("m", 4, "no", "", ".", "", -1, 2, 0, 0)
	c := chance{rand.New(rand.NewSource(9))}
	for range 100 {
		a := c.action()
		left, full, kept, part := c.troubles()
		f.Add(c.id(), a.Kind, a.Arg, c.string(), "."+c.string(), c.string(), left, full, kept, part)
	}
	f.Fuzz(func(t *testing.T, id string, kind int, arg, text, name, data string, left, full, kept, part int) {
		list := acts(api.Action{Kind: kind, Arg: arg}, rejected(data), api.Action{Kind: api.Keep, Arg: arg})
		was := files{name: data, "inbox/" + id: "old"}
		asksAny(t, was, id, list, text)
		asks, fault := asked(id, list, text)
		if fault != nil {
			return
		}
		b := plain.NewBox(was.listed())
		if b.Deliver(id, list, text, left, full, kept, part) == api.OK {
			if !maps.Equal(durable(b), was.with(asks)) {
				t.Fatalf("%q, want %q", durable(b), was.with(asks))
			}
			return
		}
		b.Recover(left, full, kept, part)
		e := b.Recover(-1, -1, 0, 0)
		if got := durable(b); e != api.OK || !maps.Equal(got, was.shown()) && !maps.Equal(got, was.shown().with(asks)) {
			t.Fatalf("%q, want %q or with %q", got, was.shown(), asks)
		}
	})
}

// wild is a disk that keeps none of its promises.
type wild struct {
	chance
	err error
}

func (w wild) says() error {
	if w.Intn(8) == 0 {
		return w.err
	}
	return nil
}

func (w wild) Read(string) ([]byte, error)        { return []byte(w.chance.string()), w.says() }
func (w wild) Write(name string, _ []byte) error  { return w.says() }
func (w wild) Rename(from string, _ string) error { return w.says() }
func (w wild) Remove(string) error                { return w.says() }
func (w wild) Sync() error                        { return w.says() }
func (w wild) Names() ([]string, error) {
	return slices.Repeat([]string{".journal", ".journal", "", "inbox/m", "." + w.chance.string()}, w.Intn(3)), w.says()
}

// P1: whatever a disk says, each call ends, and says nil or what the disk said.
func TestWildDisks(t *testing.T) {
	c := chance{rand.New(rand.NewSource(10))}
	for _, err := range []error{errTrouble, api.ErrNone, api.ErrBox, api.OK, &api.Fault{Err: api.ErrName, At: 3}} {
		for range 500 {
			d := wild{c, err}
			if got := mailsieve.Deliver(d, "m", acts(kept(), to("a")), "t"); got != nil && got != err {
				t.Errorf("Deliver = %v", got)
			}
			if got := mailsieve.Recover(d); got != nil && got != err {
				t.Errorf("Recover = %v", got)
			}
		}
	}
}

// faint is a disk that panics at one of its calls.
type faint struct {
	*drive
	left *int
	with any
}

func (f faint) tire() {
	if *f.left--; *f.left < 0 {
		panic(f.with)
	}
}

func (f faint) Read(name string) ([]byte, error)     { f.tire(); return f.drive.Read(name) }
func (f faint) Write(name string, data []byte) error { f.tire(); return f.drive.Write(name, data) }
func (f faint) Remove(name string) error             { f.tire(); return f.drive.Remove(name) }
func (f faint) Names() ([]string, error)             { f.tire(); return f.drive.Names() }
func (f faint) Sync() error                          { f.tire(); return f.drive.Sync() }

// No call panics: a disk that does so is down.
func TestDisksThatPanic(t *testing.T) {
	list := acts(kept(), to("a"))
	all, _ := asked("m", list, "t")
	for _, with := range []any{"x", nil, errTrouble, errors.New("y"), 7} {
		for calls := range 8 {
			d, left := newDrive(nil), calls
			if err := mailsieve.Deliver(faint{d, &left, with}, "m", list, "t"); err != error(api.ErrDown) {
				t.Errorf("Deliver behind %q = %v", d.calls, err)
			}
			for n := 0; ; n++ {
				left := n
				err := mailsieve.Recover(faint{d, &left, with})
				if err == nil {
					break
				}
				if err != error(api.ErrDown) {
					t.Errorf("Recover behind %q = %v", d.calls, err)
				}
			}
			if len(d.durable) != 0 && !maps.Equal(d.durable, all) {
				t.Errorf("behind %d calls: %q", calls, d.durable)
			}
		}
	}
}

func TestNoDisk(t *testing.T) {
	var none *drive
	for _, d := range []api.Disk{nil, none} {
		if err := mailsieve.Deliver(d, "m", acts(kept()), "t"); err != error(api.ErrDown) {
			t.Errorf("Deliver = %v", err)
		}
		if err := mailsieve.Recover(d); err != error(api.ErrDown) {
			t.Errorf("Recover = %v", err)
		}
	}
}

// P2.

func TestDeliveriesAreNotKept(t *testing.T) {
	bytes := []byte("m-box-text-a@b")
	text := unsafe.String(&bytes[0], len(bytes))
	d := newDrive(nil)
	list := acts(kept(), into(text[2:5]), to(text[11:]), rejected(text[6:10]))
	if err := mailsieve.Deliver(d, text[:1], list, text[6:10]); err != nil {
		t.Fatal(err)
	}
	for i := range bytes {
		bytes[i] = '!'
	}
	want := []api.File{{Name: "box/box/m", Data: "text"}, {Name: "inbox/m", Data: "text"}, {Name: "out/m.2", Data: "to a@b\ntext"}, {Name: "out/m.3", Data: "reject text\ntext"}}
	if got := d.durable.listed(); !slices.Equal(got, want) {
		t.Errorf("%q, want %q", got, want)
	}
	for _, call := range d.calls {
		if strings.Contains(call, "!") {
			t.Errorf("the disk still has %q", call)
		}
	}
}

func TestDisksKnowNothingOfOneAnother(t *testing.T) {
	var group sync.WaitGroup
	for _, id := range []string{"a", "b", "c", "d"} {
		group.Add(1)
		go func() {
			defer group.Done()
			for n := range 100 {
				d := newDrive(nil)
				d.trouble, d.done = 3+n%3, 0 // the journal is durable by then
				if err := mailsieve.Deliver(d, id, acts(kept(), to(id)), id); err != errTrouble {
					t.Errorf("Deliver = %v", err)
				}
				if err := mailsieve.Recover(d); err != nil || !maps.Equal(d.durable, files{"inbox/" + id: id, "out/" + id + ".1": "to " + id + "\n" + id}) {
					t.Errorf("Recover = %v, %q", err, d.durable)
				}
			}
		}()
	}
	group.Wait()
}
