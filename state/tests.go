package state

import (
	"slices"

	"mailsieve/api"
	"mailsieve/letters"
	"mailsieve/match"
)

// Fields: does a field of these names match one of the keys?
func (s *State) Fields(way match.Way, names, keys []string) bool {
	var values []string
	for _, n := range s.texts(names) {
		for _, h := range s.message.Headers {
			if named(h, n) {
				values = append(values, h.Value)
			}
		}
	}
	return s.matches(way, values, keys)
}

// Envelope: does one of these parts of the envelope match one of the keys? (Other names have no value.)
func (s *State) Envelope(way match.Way, parts, keys []string) bool {
	var values []string
	for _, p := range parts {
		switch letters.Small(p) {
		case "from":
			values = append(values, s.message.From)
		case "to":
			values = append(values, s.message.To)
		}
	}
	return s.matches(way, values, keys)
}

// Strings: does one of these strings match one of the keys?
func (s *State) Strings(way match.Way, list, keys []string) bool {
	return s.matches(way, s.texts(list), keys)
}

// matches asks value by value, key by key, and keeps what the first two that match tell.
func (s *State) matches(way match.Way, values, keys []string) bool {
	keys = s.texts(keys)
	for _, v := range values {
		for _, k := range keys {
			told, holds := way(v, k)
			if !holds {
				continue
			}
			if told != nil {
				s.told = told
			}
			return true
		}
	}
	return false
}

// Exists: is there a field of each of these names?
func (s *State) Exists(names []string) bool {
	for _, n := range s.texts(names) {
		if !slices.ContainsFunc(s.message.Headers, func(h api.Header) bool { return named(h, n) }) {
			return false
		}
	}
	return true
}

// Size: has the message more bytes than the number, or, if the tag says so, less?
func (s *State) Size(tag int, number int) bool {
	if tag == api.Under {
		return s.message.Size < number
	}
	return s.message.Size > number
}

func named(h api.Header, name string) bool {
	return letters.Small(h.Name) == letters.Small(name)
}
