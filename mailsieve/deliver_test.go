package mailsieve_test

import (
	"maps"
	"math"
	"slices"
	"strings"
	"testing"

	"mailsieve/api"
	"mailsieve/mailsieve"
)

// P19: what a delivery leaves.

func TestExampleOfDeliver(t *testing.T) {
	got, err := deliver(t, nil, "m1", acts(kept(), into("work.x"), to("a@b")), "t")
	if want := (files{"box/work.x/m1": "t", "inbox/m1": "t", "out/m1.2": "to a@b\nt"}); err != nil || !maps.Equal(got, want) {
		t.Errorf("%v, %q, want %q", err, got, want)
	}
}

func TestFilesOfEachAction(t *testing.T) {
	leaves(t, "m", "text\n", acts(kept()), files{"inbox/m": "text\n"})
	leaves(t, "m", "text\n", acts(into("b")), files{"box/b/m": "text\n"})
	leaves(t, "m", "text\n", acts(to("a@b")), files{"out/m.0": "to a@b\ntext\n"})
	leaves(t, "m", "text\n", acts(rejected("no")), files{"out/m.0": "reject no\ntext\n"})
}

func TestFilesOfSeveralActions(t *testing.T) {
	leaves(t, "M_9", "t", acts(to("a@b"), into("x"), to("c@d"), kept(), into("y"), rejected("r")), files{
		"out/M_9.0": "to a@b\nt", "box/x/M_9": "t", "out/M_9.2": "to c@d\nt", "inbox/M_9": "t", "box/y/M_9": "t", "out/M_9.5": "reject r\nt"})
	leaves(t, "m", "t", acts(to("a"), to("b"), to("c"), to("d"), to("e"), to("f")), files{
		"out/m.0": "to a\nt", "out/m.1": "to b\nt", "out/m.2": "to c\nt", "out/m.3": "to d\nt", "out/m.4": "to e\nt", "out/m.5": "to f\nt"})
}

func TestTheSameActionTwice(t *testing.T) {
	leaves(t, "m", "t", acts(kept(), kept()), files{"inbox/m": "t"})
	leaves(t, "m", "t", acts(into("a"), kept(), into("a")), files{"inbox/m": "t", "box/a/m": "t"})
	leaves(t, "m", "t", acts(to("a"), to("a"), rejected("a"), rejected("a")), files{"out/m.0": "to a\nt", "out/m.1": "to a\nt", "out/m.2": "reject a\nt", "out/m.3": "reject a\nt"})
}

func TestNoActions(t *testing.T) {
	leaves(t, "m", "t", nil, nil)
	leaves(t, "m", "t", acts(), nil)
	d := newDrive(nil)
	if err := mailsieve.Deliver(d, "m", nil, "t"); err != nil || len(d.calls) > 0 {
		t.Errorf("Deliver = %v: nothing is asked for, and the disk was asked: %q", err, d.calls)
	}
}

func TestEmptyTextsReasonsAndAddresses(t *testing.T) {
	leaves(t, "m", "", acts(kept(), into("a"), to(""), rejected("")), files{"inbox/m": "", "box/a/m": "", "out/m.2": "to \n", "out/m.3": "reject \n"})
	leaves(t, "m", "t", acts(to(""), rejected("")), files{"out/m.0": "to \nt", "out/m.1": "reject \nt"})
}

// What a script may not say, an action of a caller may: Deliver asks for boxes and kinds alone.
func TestArgumentsAsTheyAre(t *testing.T) {
	long := strings.Repeat("0123456789", 10)
	leaves(t, "m", "t", acts(rejected(long), to(long), to("a b"), kept()), files{"out/m.0": "reject " + long + "\nt", "out/m.1": "to " + long + "\nt", "out/m.2": "to a b\nt", "inbox/m": "t"})
	leaves(t, "m", "t", acts(rejected("a\nb:\x00\xff"), to("\n"), api.Action{Kind: api.Keep, Arg: "/../.x"}), files{"out/m.0": "reject a\nb:\x00\xff\nt", "out/m.1": "to \n\nt", "inbox/m": "t"})
}

func TestTextsOfAllBytes(t *testing.T) {
	all := make([]byte, 256)
	for i := range all {
		all[i] = byte(i)
		one := string(all[i : i+1])
		leaves(t, "m", one, acts(kept(), to(one)), files{"inbox/m": one, "out/m.1": "to " + one + "\n" + one})
	}
	text := strings.Repeat(string(all), 1000)
	leaves(t, "m", text, acts(kept(), into("a")), files{"inbox/m": text, "box/a/m": text})
}

func TestFilesThatWereAreReplaced(t *testing.T) {
	list := acts(kept(), into("a"), to("b"), rejected("c"))
	was := files{"inbox/m": "a longer old text", "box/a/m": "", "out/m.2": "to x\nold", "out/m.3": "old",
		"inbox/m2": "1", "inbox/M": "2", "box/a/m2": "3", "box/b/m": "4", "out/m.0": "5", "out/m.20": "6", "out/m": "7", "inbox": "8", "m": "9", "": "10"}
	want := was.with(files{"inbox/m": "new", "box/a/m": "new", "out/m.2": "to b\nnew", "out/m.3": "reject c\nnew"})
	for range 2 {
		got, err := deliver(t, was, "m", list, "new")
		if err != nil || !maps.Equal(got, want) {
			t.Errorf("%v, %q, want %q", err, got, want)
		}
		was = got
	}
	got, err := deliver(t, was, "m", acts(kept()), "newer")
	if want["inbox/m"] = "newer"; err != nil || !maps.Equal(got, want) {
		t.Errorf("%v, %q, want %q", err, got, want)
	}
}

// P19: faults.

func TestNamesOfDeliveries(t *testing.T) {
	for _, id := range []string{"a", "Z", "_", "0", "9", "12345678", "abcdefgh", "ABC_xyz9", "________"} {
		leaves(t, id, "t", acts(kept(), to("a")), files{"inbox/" + id: "t", "out/" + id + ".1": "to a\nt"})
	}
	for _, id := range []string{"", "123456789", "abcdefghi", strings.Repeat("a", 256), "a.b", "a-b", "a/b", "..", ".", "/", "a ", " a", "a\n", "\x00", "é", "ab\xff", "aé"} {
		declines(t, id, acts(kept()), api.ErrName)
		declines(t, id, nil, api.ErrName)
	}
}

func TestNamesOfEachByte(t *testing.T) {
	const may = "ABCDEFGHIJKLMNOPQRSTUVWXYZabcdefghijklmnopqrstuvwxyz_0123456789"
	for c := range 256 {
		b := string([]byte{byte(c)})
		for _, id := range []string{b, "a" + b, b + "a", "123" + b + "567", "1234567" + b} {
			if strings.Contains(may, b) {
				leaves(t, id, "t", acts(kept()), files{"inbox/" + id: "t"})
			} else {
				declines(t, id, acts(kept()), api.ErrName)
			}
		}
	}
}

func TestActionsOfDeliveriesAreSixAtTheMost(t *testing.T) {
	leaves(t, "m", "t", slices.Repeat(acts(kept()), 6), files{"inbox/m": "t"})
	for _, n := range []int{7, 8, 100} {
		declines(t, "m", slices.Repeat(acts(kept()), n), api.ErrActions)
	}
}

func TestBoxesOfDeliveries(t *testing.T) {
	for _, box := range []string{"a", "-", "_", "0", "a.", "a..b", "A-Z.z_9", strings.Repeat("a", 16), "-" + strings.Repeat(".", 15)} {
		leaves(t, "m", "t", acts(into(box)), files{"box/" + box + "/m": "t"})
	}
	for _, box := range []string{"", ".", "..", ".a", "a/b", "/", "a b", "a\n", "a@b", "é", "\x00", "a\xff", strings.Repeat("a", 17), strings.Repeat("a", 300)} {
		declines(t, "m", acts(into(box)), api.ErrBox)
		declines(t, "m", acts(kept(), to("a@b"), into(box), into("a")), api.ErrBox)
	}
}

func TestKindsThatAreNone(t *testing.T) {
	for _, kind := range []int{0, -1, 5, 6, 257, 1 << 32, 1<<32 + 1, math.MinInt, math.MaxInt} {
		for _, arg := range []string{"", "a", "."} {
			a := api.Action{Kind: kind, Arg: arg}
			declines(t, "m", acts(a), api.ErrArgs)
			declines(t, "m", acts(kept(), into("a"), to("a@b"), rejected("r"), a), api.ErrArgs)
		}
	}
}

func TestWhichFaultOfADeliveryIsFirst(t *testing.T) {
	box, kind := into("."), api.Action{Kind: 5}
	declines(t, "", slices.Repeat(acts(kind), 7), api.ErrName)
	declines(t, "a-", acts(box), api.ErrName)
	declines(t, "a-", acts(kind), api.ErrName)
	declines(t, "a", slices.Repeat(acts(box), 7), api.ErrActions)
	declines(t, "a", slices.Repeat(acts(kind), 7), api.ErrActions)
	declines(t, "a", acts(box, kind), api.ErrBox)
	declines(t, "a", acts(kind, box), api.ErrArgs)
	declines(t, "a", acts(kept(), box, to(""), kind), api.ErrBox)
	declines(t, "a", acts(kept(), kind, to(""), box), api.ErrArgs)
}

// At a fault no disk is asked: there may be none.
func TestFaultsWithoutADisk(t *testing.T) {
	for _, c := range []struct {
		id   string
		list []api.Action
		want api.Errno
	}{{"", nil, api.ErrName}, {"a", make([]api.Action, 7), api.ErrActions}, {"a", acts(into("")), api.ErrBox}, {"a", make([]api.Action, 1), api.ErrArgs}} {
		if err := mailsieve.Deliver(nil, c.id, c.list, "t"); err != error(c.want) {
			t.Errorf("Deliver(%q, %v) = %v, want %d", c.id, c.list, err, c.want)
		}
	}
}

// P20.

func TestFilesThatLieThereStay(t *testing.T) {
	was := files{".": "a", "..": "b", ".x/y": "c", "inbox/.z": "d", ".journal": "e"}
	list := acts(kept(), into("a"), to("b@c"))
	want, _ := asked("m", list, "t")
	for range 5 {
		got, err := deliver(t, was, "m", list, "t")
		if err != nil || !maps.Equal(got, was.with(want)) {
			t.Fatalf("%v, %q, want %q", err, got, was.with(want))
		}
		for _, name := range ownNames(t, was, list) {
			was[name] = "mine" // the names that the store would take for itself are taken
		}
	}
}

// ownNames are those, other than P19's, that a delivery writes files to.
func ownNames(t *testing.T, was files, list []api.Action) []string {
	t.Helper()
	d := newDrive(was)
	if err := mailsieve.Deliver(d, "m", list, "t"); err != nil {
		t.Fatal(err)
	}
	var own []string
	for _, call := range d.calls {
		if name, found := strings.CutPrefix(call, "write "); found && strings.HasPrefix(name, ".") {
			own = append(own, name)
		}
	}
	return own
}

// P21.

func TestDeliverSaysWhatTheDiskSays(t *testing.T) {
	list := acts(kept(), into("a"), to("b@c"))
	was := files{"inbox/m": "old", "else": "e"}
	want, _ := asked("m", list, "t")
	count := 0
	for trouble := 0; ; trouble++ {
		d := newDrive(was)
		d.trouble, d.done = trouble, -1
		err := mailsieve.Deliver(d, "m", list, "t")
		if trouble >= len(d.calls) {
			break
		}
		count++
		if err != errTrouble || len(d.calls) != trouble+1 {
			t.Errorf("Deliver = %v behind %q", err, d.calls)
		}
		for name, data := range d.now().shown() {
			if data != was[name] && data != want[name] {
				t.Errorf("behind %q: %q has %q", d.calls, name, data)
			}
		}
	}
	if count < 6 {
		t.Errorf("the disk was asked %d times alone", count)
	}
}
