package script

import (
	"math"
	"strings"

	"mailsieve/api"
	"mailsieve/fault"
	"mailsieve/letters"
)

type kind int

const (
	end kind = iota
	name
	tag
	sign
	number
	quote
)

// word is a word of a text, or its end. Names, tags (with their colon) and signs are spelt; the others are not, so that no string is taken for one of them.
type word struct {
	kind   kind
	at     int
	spelt  string
	said   string
	number int
}

// skip tells where the next word begins: behind blanks and comments.
func skip(text string, at int) int {
	for at < len(text) {
		rest := text[at:]
		switch {
		case letters.IsBlank(rest[0]):
			at++
		case rest[0] == '#':
			at += lineLength(rest)
		case strings.HasPrefix(rest, "/*"):
			inside := strings.Index(rest[2:], "*/")
			if inside < 0 {
				panic(fault.At(api.ErrWord, at))
			}
			at += len("/*") + inside + len("*/")
		default:
			return at
		}
	}
	return at
}

func lineLength(text string) int {
	feed := strings.IndexByte(text, '\n')
	if feed < 0 {
		return len(text)
	}
	return feed + 1
}

// scan reads the word that begins at a place, and tells where it ends.
func scan(text string, at int) (word, int) {
	if at == len(text) {
		return word{kind: end, at: at}, at
	}
	switch c := text[at]; {
	case letters.IsLetter(c):
		return scanSpelt(name, text, at, letters.NameLength(text[at:]))
	case c == ':':
		length := letters.NameLength(text[at+1:])
		if length == 0 {
			panic(fault.At(api.ErrWord, at))
		}
		return scanSpelt(tag, text, at, 1+length)
	case letters.IsDigit(c):
		return scanNumber(text, at)
	case c == '"':
		return scanQuote(text, at)
	case strings.IndexByte(";,(){}[]", c) >= 0:
		return scanSpelt(sign, text, at, 1)
	}
	panic(fault.At(api.ErrWord, at))
}

func scanSpelt(k kind, text string, at int, length int) (word, int) {
	behind := at + length
	return word{kind: k, at: at, spelt: letters.Small(text[at:behind])}, behind
}

// scanNumber stops counting just above the greatest number, so that no row of digits is too long for it.
func scanNumber(text string, at int) (word, int) {
	const greatest = math.MaxInt32
	value, behind := int64(0), at
	for behind < len(text) && letters.IsDigit(text[behind]) {
		value = min(value*10+int64(text[behind]-'0'), greatest+1)
		behind++
	}
	switch byteAt(text, behind) {
	case 'M', 'm':
		value *= 1024
		fallthrough
	case 'K', 'k':
		value *= 1024
		behind++
	}
	if next := byteAt(text, behind); letters.IsLetter(next) || letters.IsDigit(next) {
		panic(fault.At(api.ErrWord, at))
	}
	if value > greatest {
		panic(fault.At(api.ErrNumber, at))
	}
	return word{kind: number, at: at, number: int(value)}, behind
}

// byteAt is a byte of the text, or 0 behind its end: that is in no word, as the end is.
func byteAt(text string, at int) byte {
	if at < len(text) {
		return text[at]
	}
	return 0
}

func scanQuote(text string, at int) (word, int) {
	var said []byte
	for i := at + 1; i < len(text); i++ {
		if text[i] == '"' {
			return word{kind: quote, at: at, said: string(said)}, i + 1
		}
		if text[i] == '\\' && i+1 < len(text) {
			i++
		}
		said = append(said, text[i])
	}
	panic(fault.At(api.ErrWord, at))
}
