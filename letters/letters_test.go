package letters

import (
	"strings"
	"testing"
)

func TestBytesAreToldApart(t *testing.T) {
	const (
		capitals = "ABCDEFGHIJKLMNOPQRSTUVWXYZ"
		smalls   = "abcdefghijklmnopqrstuvwxyz"
		digits   = "0123456789"
		blanks   = " \t\n\r"
	)
	for i := range 256 {
		c := byte(i)
		if want := strings.IndexByte(capitals+smalls+"_", c) >= 0; IsLetter(c) != want {
			t.Errorf("IsLetter(%q) = %v", c, !want)
		}
		if want := strings.IndexByte(digits, c) >= 0; IsDigit(c) != want {
			t.Errorf("IsDigit(%q) = %v", c, !want)
		}
		if want := strings.IndexByte(blanks, c) >= 0; IsBlank(c) != want {
			t.Errorf("IsBlank(%q) = %v", c, !want)
		}
		turns(t, "Small", Small, c, capitals, smalls)
		turns(t, "Capital", Capital, c, smalls, capitals)
	}
}

// turns asks whether one byte is turned as these letters are.
func turns(t *testing.T, name string, turn func(string) string, c byte, from, to string) {
	t.Helper()
	want := string([]byte{c})
	if k := strings.IndexByte(from, c); k >= 0 {
		want = to[k : k+1]
	}
	if got := turn(string([]byte{c})); got != want {
		t.Errorf("%s(%q) = %q, want %q", name, c, got, want)
	}
}

func TestSmallTurnsASCIIAlone(t *testing.T) {
	for text, want := range map[string]string{"": "", "aBC_1-Z": "abc_1-z", "ÄÉ\u212a": "ÄÉ\u212a", "\xff\xc4X": "\xff\xc4x"} {
		if got := Small(text); got != want {
			t.Errorf("Small(%q) = %q, want %q", text, got, want)
		}
	}
}

func TestCapitalTurnsASCIIAlone(t *testing.T) {
	for text, want := range map[string]string{"": "", "aBC_1-z": "ABC_1-Z", "äéß\u017f": "äéß\u017f", "\xff\xe4x": "\xff\xe4X"} {
		if got := Capital(text); got != want {
			t.Errorf("Capital(%q) = %q, want %q", text, got, want)
		}
	}
}

func TestNames(t *testing.T) {
	for text, length := range map[string]int{"": 0, "a": 1, "_": 1, "Z9_z": 4, "1a": 0, "-a": 0, " a": 0, "a b": 1, "a-b": 1, "a\x00": 1, "é": 0, "aé": 1} {
		if got := NameLength(text); got != length {
			t.Errorf("NameLength(%q) = %d, want %d", text, got, length)
		}
		if want := length > 0 && length == len(text); IsName(text) != want {
			t.Errorf("IsName(%q) = %v", text, !want)
		}
	}
}
