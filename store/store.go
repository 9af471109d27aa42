// Package store leaves deliveries on a disk, all of each or nothing, wherever the disk goes down.
//
// A delivery is first told whole in a journal. While the journal is durable, the delivery is done as often as it takes; when it is not, nothing of the delivery has been begun, or all of it is durable.
package store

import (
	"strings"

	"mailsieve/api"
)

// Deliver leaves what the actions ask for (P19 to P21).
func Deliver(d api.Disk, id string, acts []api.Action, text string) error {
	v := delivery{id, acts, text}
	files, err := v.files()
	if err != nil || len(files) == 0 {
		return err
	}
	return guarded(func() error { return v.leave(d, files) })
}

// Recover ends what went down (P22).
func Recover(d api.Disk) error {
	return guarded(func() error { return settleAll(d) })
}

// guarded does what asks the disk. A disk that panics can't be told from one that is down: in both cases a Recover must come.
func guarded(work func() error) (err error) {
	defer func() {
		if recover() != nil {
			err = api.ErrDown
		}
	}()
	return work()
}

// leave puts the delivery's files on the disk. Each Sync parts what must not be lost from what must not be kept without it.
func (v delivery) leave(d api.Disk, files []api.File) error {
	names, err := d.Names()
	if err != nil {
		return err
	}
	name := journalName(names)
	return inTurn(
		writing(d, api.File{Name: name, Data: v.journal(name)}), d.Sync,
		writing(d, files...), d.Sync,
		removing(d, name), d.Sync,
	)
}

// settleAll ends all that the store's own files tell. It begins with a Sync: a journal that was not durable yet could be lost when some of what it asks is not.
func settleAll(d api.Disk) error {
	if err := d.Sync(); err != nil {
		return err
	}
	names, err := d.Names()
	if err != nil {
		return err
	}
	for _, name := range ownNames(names) {
		if err := settle(d, name); err != nil {
			return err
		}
	}
	return nil
}

// ownNames are those of the store's own files, in a new list: the disk's may change with each file that is removed.
func ownNames(names []string) []string {
	var own []string
	for _, name := range names {
		if strings.HasPrefix(name, hidden) {
			own = append(own, name)
		}
	}
	return own
}

// settle takes a file of the store's own away, when all that it asks is durable: a journal its delivery, any other nothing.
func settle(d api.Disk, name string) error {
	data, err := d.Read(name)
	if err != nil {
		return err
	}
	var files []api.File
	if v, ok := told(name, string(data)); ok {
		files, _ = v.files() // a delivery that is none asks for no files
	}
	return inTurn(writing(d, files...), d.Sync, removing(d, name), d.Sync)
}

// inTurn does steps until one says an error.
func inTurn(steps ...func() error) error {
	for _, step := range steps {
		if err := step(); err != nil {
			return err
		}
	}
	return nil
}

// writing is the step that writes files. The disk is given bytes of its own: it may keep them, or write into them.
func writing(d api.Disk, files ...api.File) func() error {
	return func() error {
		for _, f := range files {
			if err := d.Write(f.Name, []byte(f.Data)); err != nil {
				return err
			}
		}
		return nil
	}
}

// removing is the step that removes a file.
func removing(d api.Disk, name string) func() error {
	return func() error { return d.Remove(name) }
}
