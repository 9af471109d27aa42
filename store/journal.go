package store

import (
	"slices"
	"strconv"
	"strings"

	"mailsieve/api"
)

// hidden begins the names of the files that are the store's own.
const hidden = "."

// journalName is a name that no file has yet: what lies there is not the store's to replace.
func journalName(names []string) string {
	name := hidden + "journal"
	for slices.Contains(names, name) {
		name += "_"
	}
	return name
}

// journal is the delivery as the bytes of a file of this name.
func (v delivery) journal(name string) string {
	parts := []string{v.id, v.text}
	for _, a := range v.acts {
		parts = append(parts, strconv.Itoa(a.Kind), a.Arg)
	}
	return sealed(name, joined(parts...))
}

// told is the delivery that a file of this name tells, if it is a journal, and whole.
func told(name string, data string) (delivery, bool) {
	_, body, found := strings.Cut(data, "\n")
	if !found || sealed(name, body) != data {
		return delivery{}, false
	}
	parts, ok := parted(body)
	if !ok || len(parts) == 0 || len(parts)%2 != 0 {
		return delivery{}, false
	}
	v := delivery{id: parts[0], text: parts[1]}
	for i := 2; i < len(parts); i += 2 {
		kind, err := strconv.Atoi(parts[i])
		if err != nil {
			return delivery{}, false
		}
		v.acts = append(v.acts, api.Action{Kind: kind, Arg: parts[i+1]})
	}
	return v, true
}

// sealed is a body behind a line by which it is known: the length, so that no beginning of a journal is one, whatever its sum is; and the sum, in which the name counts too, so that a copy that lies elsewhere is none.
func sealed(name string, body string) string {
	return strconv.Itoa(len(body)) + " " + strconv.FormatUint(sum(name, "\n", body), 16) + "\n" + body
}

// sum is FNV-1a of the parts one behind the other: it wraps around.
func sum(parts ...string) uint64 {
	const (
		basis uint64 = 14695981039346656037
		prime uint64 = 1099511628211
	)
	s := basis
	for _, part := range parts {
		for i := range len(part) {
			s = (s ^ uint64(part[i])) * prime
		}
	}
	return s
}

// joined is the parts in one text, each behind its length: what is in them is never looked at when they are parted.
func joined(parts ...string) string {
	var b strings.Builder
	for _, part := range parts {
		b.WriteString(strconv.Itoa(len(part)))
		b.WriteString(":")
		b.WriteString(part)
	}
	return b.String()
}

// parted is the parts that joined has put into a text; false, if it has not made this one.
func parted(text string) ([]string, bool) {
	var parts []string
	for text != "" {
		digits, rest, found := strings.Cut(text, ":")
		length, err := strconv.Atoi(digits)
		if !found || err != nil || length < 0 || length > len(rest) {
			return nil, false
		}
		parts = append(parts, rest[:length])
		text = rest[length:]
	}
	return parts, true
}
