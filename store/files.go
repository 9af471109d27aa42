package store

import (
	"strconv"

	"mailsieve/acts"
	"mailsieve/api"
	"mailsieve/letters"
)

const maxID = 8

// delivery is what is to be left on a disk.
type delivery struct {
	id   string
	acts []api.Action
	text string
}

// isID: may a delivery be named so?
func isID(s string) bool {
	if s == "" || len(s) > maxID {
		return false
	}
	for i := range len(s) {
		if !letters.IsLetter(s[i]) && !letters.IsDigit(s[i]) {
			return false
		}
	}
	return true
}

// files are what the delivery asks for: of each action one.
func (v delivery) files() ([]api.File, error) {
	if !isID(v.id) {
		return nil, api.ErrName
	}
	if len(v.acts) > api.MaxActs {
		return nil, api.ErrActions
	}
	var files []api.File
	for number, a := range v.acts {
		f, err := v.file(number, a)
		if err != nil {
			return nil, err
		}
		files = append(files, f)
	}
	return files, nil
}

func (v delivery) file(number int, a api.Action) (api.File, error) {
	switch a.Kind {
	case api.Keep:
		return api.File{Name: "inbox/" + v.id, Data: v.text}, nil
	case api.FileInto:
		if !acts.IsBox(a.Arg) {
			return api.File{}, api.ErrBox
		}
		return api.File{Name: "box/" + a.Arg + "/" + v.id, Data: v.text}, nil
	case api.Redirect:
		return v.out(number, "to "+a.Arg), nil
	case api.Reject:
		return v.out(number, "reject "+a.Arg), nil
	}
	return api.File{}, api.ErrArgs
}

// out is a file of what leaves the store: its first line says how.
func (v delivery) out(number int, line string) api.File {
	return api.File{Name: "out/" + v.id + "." + strconv.Itoa(number), Data: line + "\n" + v.text}
}
