package match

// piece is what stands in a key: a byte, or a wildcard.
type piece struct {
	kind kind
	self byte
}

type kind int

const (
	just kind = iota
	one
	many
)

// pieces takes a key apart. (A `\` that nothing is behind stands for itself.)
func pieces(key string) []piece {
	var list []piece
	for i := 0; i < len(key); i++ {
		switch c := key[i]; {
		case c == '*':
			list = append(list, piece{kind: many})
		case c == '?':
			list = append(list, piece{kind: one})
		case c == '\\' && i+1 < len(key):
			i++
			list = append(list, piece{just, key[i]})
		default:
			list = append(list, piece{just, c})
		}
	}
	return list
}

func (p piece) takes(c byte) bool { return p.kind == one || p.kind == just && p.self == c }

// fit tells for each piece where in the value that begins for which it stands (it ends where the next one begins), and behind all of them the value's length.
//
// Only the last `*` that was met is ever made longer. The pieces ahead of it stand as near to the value's beginning as they can: elsewhere they would leave less of the value to the others, and more of it to an earlier `*`.
func fit(value string, key []piece) (places []int, holds bool) {
	places = make([]int, len(key)+1)
	places[len(key)] = len(value)
	star, ends := -1, 0 // the last `*` that was met, and where what it stands for ends
	at, k := 0, 0
	for at < len(value) || k < len(key) {
		switch {
		case k < len(key) && key[k].kind == many:
			star, ends = k, at
			places[k] = at
			k++
		case k < len(key) && at < len(value) && key[k].takes(value[at]):
			places[k] = at
			at++
			k++
		case star >= 0 && at < len(value):
			ends++
			at, k = ends, star+1
		default:
			return nil, false
		}
	}
	return places, true
}

// parts is the value, and what the wildcards of the key stand for in it.
func parts(value string, key []piece, places []int) []string {
	list := []string{value}
	for k, p := range key {
		if p.kind != just {
			list = append(list, value[places[k]:places[k+1]])
		}
	}
	return list
}
