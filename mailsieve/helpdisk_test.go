package mailsieve_test

import (
	"bytes"
	"errors"
	"fmt"
	"maps"
	"regexp"
	"slices"
	"strings"
	"testing"

	"mailsieve/api"
	"mailsieve/mailsieve"
)

var errTrouble = errors.New("trouble")

// files is what a disk has, by names.
type files map[string]string

// with is the files with others, which replace those of their names.
func (f files) with(others files) files {
	all := files{}
	maps.Copy(all, f)
	maps.Copy(all, others)
	return all
}

// shown is the files without those whose names begin with a `.`.
func (f files) shown() files {
	shown := files{}.with(f)
	maps.DeleteFunc(shown, func(name, _ string) bool { return strings.HasPrefix(name, ".") })
	return shown
}

// task is something that a disk was told.
type task struct {
	kind           string
	name, to, data string
}

func (k task) do(f files) {
	data, found := f[k.name]
	switch {
	case k.kind == "write":
		f[k.name] = k.data
	case k.kind == "rename" && found:
		delete(f, k.name)
		f[k.to] = data
	case k.kind == "remove":
		delete(f, k.name)
	}
}

// drive is a disk that notes its calls. One of them may say an error, having done nothing, all, or of a Write a beginning: it is never known which.
type drive struct {
	durable files
	waiting []task // done since the last Sync
	calls   []string
	trouble int    // which call says err, counted from 0; below 0: none does
	done    int    // of that call: -1: nothing, 0: all, above: so many parts of eight of a Write
	err     error  // what it says
	lent    []byte // what the last Read has handed out, and data what it was
	data    []byte
	names   []string
	spoilt  bool
}

func newDrive(f files) *drive {
	return &drive{durable: files{}.with(f), trouble: -1, err: errTrouble}
}

func (d *drive) now() files {
	now := files{}.with(d.durable)
	for _, k := range d.waiting {
		k.do(now)
	}
	return now
}

// asked notes a call; it is also when what was handed out is no more: nobody may have written into it, and nobody may look at it again.
func (d *drive) asked(call string) (troubled bool) {
	d.spoilt = d.spoilt || !bytes.Equal(d.lent, d.data)
	for i := range d.lent {
		d.lent[i] = '!'
	}
	for i := range d.names {
		d.names[i] = ".mine"
	}
	d.lent, d.data, d.names = nil, nil, nil
	d.calls = append(d.calls, call)
	return len(d.calls)-1 == d.trouble
}

func (d *drive) told(k task) error {
	troubled := d.asked(k.kind + " " + k.name)
	if troubled && d.done < 0 {
		return d.err
	}
	if _, found := d.now()[k.name]; !found && k.kind != "write" {
		return api.ErrNone
	}
	if troubled && d.done > 0 {
		k.data = k.data[:len(k.data)*d.done/8]
	}
	d.waiting = append(d.waiting, k)
	if troubled {
		return d.err
	}
	return nil
}

func (d *drive) Read(name string) ([]byte, error) {
	if d.asked("read " + name) {
		return nil, d.err
	}
	data, found := d.now()[name]
	if !found {
		return nil, api.ErrNone
	}
	d.lent, d.data = []byte(data), []byte(data)
	return d.lent, nil
}

func (d *drive) Names() ([]string, error) {
	if d.asked("names") {
		return nil, d.err
	}
	d.names = slices.Sorted(maps.Keys(d.now()))
	return d.names, nil
}

func (d *drive) Write(name string, data []byte) error {
	err := d.told(task{kind: "write", name: name, data: string(data)})
	for i := range data {
		data[i] = '!'
	}
	return err
}

func (d *drive) Rename(from string, to string) error {
	return d.told(task{kind: "rename", name: from, to: to})
}

func (d *drive) Remove(name string) error { return d.told(task{kind: "remove", name: name}) }

func (d *drive) Sync() error {
	troubled := d.asked("sync")
	if troubled && d.done < 0 {
		return d.err
	}
	d.durable, d.waiting = d.now(), nil
	if troubled {
		return d.err
	}
	return nil
}

// asked is what P19 says of a delivery, in other words than the program's.
func asked(id string, list []api.Action, text string) (files, error) {
	if !regexp.MustCompile(`^[A-Za-z0-9_]{1,8}$`).MatchString(id) {
		return nil, api.ErrName
	}
	if len(list) > 6 {
		return nil, api.ErrActions
	}
	f := files{}
	for i, a := range list {
		switch {
		case a.Kind == 2 && !regexp.MustCompile(`^[A-Za-z0-9_-][A-Za-z0-9_.-]{0,15}$`).MatchString(a.Arg):
			return nil, api.ErrBox
		case a.Kind == 1:
			f["inbox/"+id] = text
		case a.Kind == 2:
			f["box/"+a.Arg+"/"+id] = text
		case a.Kind == 3:
			f[fmt.Sprintf("out/%s.%d", id, i)] = "to " + a.Arg + "\n" + text
		case a.Kind == 4:
			f[fmt.Sprintf("out/%s.%d", id, i)] = "reject " + a.Arg + "\n" + text
		default:
			return nil, api.ErrArgs
		}
	}
	return f, nil
}

// deliver asks of one delivery, on a disk without trouble, what P2, P19 and P20 say of all, and tells what is on the disk then.
func deliver(t *testing.T, was files, id string, list []api.Action, text string) (files, error) {
	t.Helper()
	d := newDrive(was)
	own := slices.Clone(list)
	err := mailsieve.Deliver(d, id, own, text)
	if !slices.Equal(own, list) || d.spoilt {
		t.Errorf("Deliver(%q, %v, %q) has written into what it was given", id, list, text)
	}
	if err != nil && len(d.calls) > 0 {
		t.Errorf("Deliver(%q, %v, %q) = %v has touched the disk: %q", id, list, text, err, d.calls)
	}
	if len(d.waiting) > 0 {
		t.Errorf("Deliver(%q, %v, %q) = %v: not durable: %q", id, list, text, err, d.waiting)
	}
	return d.durable, err
}

// leaves asks for the files of deliveries of this id and text, on a disk that has others.
func leaves(t *testing.T, id string, text string, list []api.Action, want files) {
	t.Helper()
	was := files{"inbox/other": "o", "box/x/other": "p", "out/other.0": "q", "else": "r"}
	got, err := deliver(t, was, id, list, text)
	if err != nil || !maps.Equal(got, was.with(want)) {
		t.Errorf("Deliver(%q, %v, %q) = %v, files %q, want %q", id, list, text, err, got, was.with(want))
	}
}

// declines asks for the error of a delivery, and for a disk that is untouched.
func declines(t *testing.T, id string, list []api.Action, want api.Errno) {
	t.Helper()
	was := files{"inbox/a": "o", "inbox/" + id: "p", ".x": "q"}
	got, err := deliver(t, was, id, list, "text")
	if err != error(want) || !maps.Equal(got, was) {
		t.Errorf("Deliver(%q, %v) = %v, files %q, want error %d", id, list, err, got, want)
	}
}
