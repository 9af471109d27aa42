// Package letters tells bytes apart as the document's section 'Words' does.
package letters

// IsLetter: one of ASCII, or `_`.
func IsLetter(c byte) bool {
	return isSmall(c) || isCapital(c) || c == '_'
}

// IsDigit: 0 to 9.
func IsDigit(c byte) bool { return '0' <= c && c <= '9' }

// IsBlank: a space, tab, line feed or carriage return.
func IsBlank(c byte) bool {
	return c == ' ' || c == '\t' || c == '\n' || c == '\r'
}

func isSmall(c byte) bool { return 'a' <= c && c <= 'z' }

func isCapital(c byte) bool { return 'A' <= c && c <= 'Z' }

// Small is s with capitals of ASCII turned. (The library's ToLower turns other letters too, and bytes that are no letters at all.)
func Small(s string) string {
	small := []byte(s)
	for i, c := range small {
		if isCapital(c) {
			small[i] = c - 'A' + 'a'
		}
	}
	return string(small)
}

// Capital is s with small letters of ASCII turned.
func Capital(s string) string {
	capital := []byte(s)
	for i, c := range capital {
		if isSmall(c) {
			capital[i] = c - 'a' + 'A'
		}
	}
	return string(capital)
}

// NameLength is how many bytes the name has with which s begins: 0, if it begins with none.
func NameLength(s string) int {
	if s == "" || !IsLetter(s[0]) {
		return 0
	}
	n := 1
	for n < len(s) && (IsLetter(s[n]) || IsDigit(s[n])) {
		n++
	}
	return n
}

// IsName: a letter, then letters and digits, and nothing else.
func IsName(s string) bool { return s != "" && NameLength(s) == len(s) }
