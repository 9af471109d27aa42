// Package match tells whether a value matches a key, and what the key's wildcards stand for.
package match

import (
	"strings"

	"mailsieve/api"
	"mailsieve/letters"
)

// Way asks one value and one key. If they match by wildcards it tells the value and, behind it, what each wildcard stands for; in other ways it tells nothing.
type Way func(value, key string) (told []string, holds bool)

// By is the way of a tag and a comparator; nil, if there is no such tag.
func By(tag int, octet bool) Way {
	look := comparator(octet)
	ways := map[int]Way{
		api.Is:       untold(look, func(value, key string) bool { return value == key }),
		api.Contains: untold(look, strings.Contains),
		api.Matches: func(value, key string) ([]string, bool) {
			list := pieces(look(key))
			places, holds := fit(look(value), list)
			if !holds {
				return nil, false
			}
			return parts(value, list, places), true
		},
	}
	return ways[tag]
}

// comparator is how strings are looked at ahead of being asked: as they are, or in small letters. Each byte stays at its place, so that parts found by it are parts of what was there.
func comparator(octet bool) func(s string) string {
	if octet {
		return func(s string) string { return s }
	}
	return letters.Small
}

func untold(look func(s string) string, holds func(value, key string) bool) Way {
	return func(value, key string) ([]string, bool) { return nil, holds(look(value), look(key)) }
}
