package mailsieve_test

import (
	"errors"
	"math/rand"
	"strings"
	"sync"
	"testing"
	"unsafe"

	"mailsieve/api"
	"mailsieve/mailsieve"
)

// holds asks of one text what P1, P2 and P9 say of all of them.
func holds(t *testing.T, text string) {
	t.Helper()
	s, err := parse(text)
	if err != nil {
		refused(t, text, s, err)
		return
	}
	if s == nil {
		t.Fatalf("Parse(%q): neither a script nor an error", text)
	}
	written := s.Text()
	if again := s.Text(); again != written {
		t.Fatalf("%q is written %q, then %q", text, written, again)
	}
	if len(written) > api.MaxText {
		return
	}
	same, err := parse(written)
	if err != nil || same.Text() != written {
		t.Fatalf("%q is written %q, which is another script: %v", text, written, err)
	}
}

func refused(t *testing.T, text string, s *mailsieve.Script, err error) {
	t.Helper()
	if s != nil {
		t.Fatalf("Parse(%q): a script and an error, %v", text, err)
	}
	if len(text) > api.MaxText {
		if err != error(api.ErrLong) {
			t.Fatalf("Parse of %d bytes: %v", len(text), err)
		}
		return
	}
	var f *api.Fault
	if !errors.As(err, &f) || f.Err < api.ErrWord || f.Err > api.ErrArgs || f.At < 0 || f.At > len(text) {
		t.Fatalf("Parse(%q): %v is no fault of a text", text, err)
	}
	if f.At == len(text) && f.Err != api.ErrSyntax {
		t.Fatalf("Parse(%q): %v at the end", text, err)
	}
}

// P1.

func TestShortTextsOfAllBytes(t *testing.T) {
	for i := range 1 << 16 {
		two := string([]byte{byte(i >> 8), byte(i)})
		holds(t, two)
		holds(t, "redirect "+two)
		holds(t, `redirect "`+two+`";`)
	}
}

func TestTextsOfAnyBytes(t *testing.T) {
	random := rand.New(rand.NewSource(1))
	for range 20000 {
		b := make([]byte, random.Intn(api.MaxText+20))
		random.Read(b)
		holds(t, string(b))
	}
}

// TestTextsOfAnyWords goes deeper than bytes by chance do.
func TestTextsOfAnyWords(t *testing.T) {
	words := []string{";", ",", "(", ")", "{", "}", "[", "]", "1", "2K", "99999999999", "\"", "\"a\"", "\"from\"", "\"i;octet\"", "\"fileinto\"",
		"\\", "/*", "*/", "#", "\n", ":", ":is", ":matches", ":comparator", ":over", ":lower", "require", "keep", "stop", "fileinto", "set", "if", "elsif", "else",
		"true", "not", "allof", "anyof", "header", "envelope", "string", "exists", "size", "foo", "é", "$"}
	random := rand.New(rand.NewSource(2))
	for range 50000 {
		text := ""
		if random.Intn(2) == 0 {
			text = all
		}
		for range random.Intn(40) {
			text += words[random.Intn(len(words))] + " "
		}
		holds(t, text)
	}
}

// TestScriptsWithChangedBytes changes scripts a little, so that faults stand far behind.
func TestScriptsWithChangedBytes(t *testing.T) {
	random := rand.New(rand.NewSource(3))
	list := pieces()
	for range 50000 {
		text := all
		for range 1 + random.Intn(4) {
			text += strings.Join(list[1+random.Intn(len(list)-1)], " ") + " "
		}
		for range random.Intn(4) {
			i := random.Intn(len(text))
			text = text[:i] + []string{"", "\"", "\\", "$", "/*", "0", "{", "_"}[random.Intn(8)] + text[i+random.Intn(2):]
		}
		holds(t, text)
	}
}

func TestNoScriptAtAll(t *testing.T) {
	var none *mailsieve.Script
	for _, s := range []*mailsieve.Script{none, {}} {
		if got := s.Text(); got != "" {
			t.Errorf("no script is written %q", got)
		}
	}
}

func FuzzParse(f *testing.F) {
	for _, p := range pieces() {
		f.Add(ahead(p) + strings.Join(p, " "))
	}
	f.Add("if size :over 2147483648 {}")
	f.Add("# a\n/* b */ KEEP ;\r\n\tredirect \"\\\"\\\\\";")
	f.Add(inside(7, "keep;"))
	f.Fuzz(holds)
}

// P2.

func TestTextIsNotKept(t *testing.T) {
	text := []byte(all + `if header :contains "Subject" ["a","b"] {fileinto "box";} else {set "V" "x\"y";}`)
	s, err := parse(unsafe.String(&text[0], len(text)))
	if err != nil {
		t.Fatal(err)
	}
	want := s.Text()
	for i := range text {
		text[i] = '!'
	}
	if got := s.Text(); got != want {
		t.Errorf("a script was %q, and is %q when its text is written into", want, got)
	}
}

func TestScriptsKnowNothingOfOneAnother(t *testing.T) {
	first, err := parse(all + `fileinto "a";`)
	if err != nil {
		t.Fatal(err)
	}
	want := first.Text()
	refuse(t, bad{`fileinto "a";`, api.ErrUse, 0}, bad{`require "reject";fileinto "a";`, api.ErrUse, 17})
	accept(t, good{`require "reject";`, "require \"reject\";\n"})
	if got := first.Text(); got != want {
		t.Errorf("a script was %q, and is %q behind others", want, got)
	}
}

func TestFaultsAreTheCallers(t *testing.T) {
	_, err := parse("keep")
	var f *api.Fault
	if !errors.As(err, &f) {
		t.Fatal(err)
	}
	*f = api.Fault{Err: api.ErrDown, At: -1}
	refuse(t, bad{"keep", api.ErrSyntax, 4})
}

func TestScriptsReadAtTheSameTime(t *testing.T) {
	var group sync.WaitGroup
	for _, p := range pieces() {
		group.Add(1)
		go func() {
			defer group.Done()
			for range 50 {
				if s, err := parse(ahead(p) + strings.Join(p, " ")); err != nil || s.Text() == "" {
					t.Errorf("%q: %v", p, err)
				}
				if s, err := parse(strings.Join(p, " ") + "$"); s != nil || err == nil {
					t.Errorf("%q and a $: a script", p)
				}
			}
		}()
	}
	group.Wait()
}
