package mailsieve_test

import (
	"errors"
	"math/rand"
	"regexp"
	"slices"
	"strings"
	"sync"
	"testing"
	"unsafe"

	"mailsieve/api"
)

// sound asks of one run what P1, P2, P11 and P16 say of all of them.
func sound(t *testing.T, text string, m api.Message) {
	t.Helper()
	if _, err := parse(text); err != nil {
		return
	}
	got, err := run(t, text, m)
	if err != nil {
		faulty(t, text, got, err)
		return
	}
	if len(got) > api.MaxActs {
		t.Fatalf("%q with %+v: %d actions", text, m, len(got))
	}
	for i, a := range got {
		if !proper(a) || a.Kind == api.Reject && len(got) > 1 || slices.Contains(got[:i], a) {
			t.Fatalf("%q with %+v: %+v in %+v", text, m, a, got)
		}
	}
}

func faulty(t *testing.T, text string, got []api.Action, err error) {
	t.Helper()
	if !slices.Equal(got, acts(kept())) {
		t.Fatalf("%q: %v beside %v", text, got, err)
	}
	var f *api.Fault
	if !errors.As(err, &f) || f.At < 0 || f.At >= len(text) {
		t.Fatalf("%q: %v has no place", text, err)
	}
	command := regexp.MustCompile(`^(?i:keep|fileinto|redirect|reject)`).FindString(text[f.At:])
	may := map[string][]api.Errno{
		"keep":     {api.ErrConflict, api.ErrActions},
		"fileinto": {api.ErrBox, api.ErrConflict, api.ErrActions},
		"redirect": {api.ErrAddr, api.ErrConflict, api.ErrActions},
		"reject":   {api.ErrConflict},
	}
	if !slices.Contains(may[strings.ToLower(command)], f.Err) {
		t.Fatalf("%q: %v is no fault of %q", text, err, command)
	}
}

func proper(a api.Action) bool {
	switch a.Kind {
	case api.Keep:
		return a.Arg == ""
	case api.FileInto:
		return regexp.MustCompile(`^[A-Za-z0-9_-][A-Za-z0-9_.-]{0,15}$`).MatchString(a.Arg)
	case api.Redirect:
		from, to, found := strings.Cut(a.Arg, "@")
		return found && from != "" && to != "" && !strings.ContainsAny(a.Arg, " \t\r\n") && !strings.Contains(to, "@") && len(a.Arg) <= 32
	case api.Reject:
		return len(a.Arg) <= api.MaxValue
	}
	return false
}

// chance makes scripts and messages: parts of which every one may meet every other.
type chance struct{ *rand.Rand }

func (c chance) of(list ...string) string { return list[c.Intn(len(list))] }

func (c chance) string() string {
	b := ""
	for range c.Intn(5) {
		b += c.of("a", "b", "B", "*", "?", "\\", "${a}", "${B}", "${0}", "${1}", "${2}", "${", "}", "$", "@", "-", ".", " ", "\xff", "\x00", "é", "\"", "ab", "a@b")
	}
	return b
}

func (c chance) strings() string {
	list := []string{text(c.string())}
	for c.Intn(3) == 0 {
		list = append(list, text(c.string()))
	}
	return "[" + strings.Join(list, ",") + "]"
}

func (c chance) test(depth int) string {
	if depth > 0 && c.Intn(3) == 0 {
		return c.of("not "+c.test(depth-1), "allof("+c.test(depth-1)+","+c.test(depth-1)+")", "anyof("+c.test(depth-1)+","+c.test(depth-1)+")")
	}
	options := c.of("", ":is ", ":contains ", ":matches ", ":matches ") + c.of("", `:comparator "i;octet" `)
	return c.of("true", "false", "header "+options+c.strings()+c.strings(), "string "+options+c.strings()+c.strings(), `envelope `+options+`["From","to"]`+c.strings(), "exists "+c.strings(), "size :over 5", "size :under 5")
}

func (c chance) command(depth int) string {
	if depth > 0 && c.Intn(3) == 0 {
		return "if " + c.test(depth) + "{" + c.commands(depth-1) + "}" + c.of("", "elsif "+c.test(depth)+"{"+c.commands(depth-1)+"}") + c.of("", "else{"+c.commands(depth-1)+"}")
	}
	return c.of("keep;", "discard;", "stop;", "fileinto "+text(c.string())+";", `fileinto "a${1}";`, "redirect "+text(c.string())+";", `redirect "${a}@b";`, "reject "+text(c.string())+";",
		"set "+c.of("", ":lower", ":upper", ":length")+c.of(`"a"`, `"B"`)+text(c.string())+";")
}

func (c chance) commands(depth int) string {
	b := ""
	for range c.Intn(4) {
		b += c.command(depth)
	}
	return b
}

func (c chance) message() api.Message {
	m := api.Message{From: c.string(), To: c.string(), Size: c.Intn(12) - 1}
	for range c.Intn(5) {
		m.Headers = append(m.Headers, api.Header{Name: c.string(), Value: c.string()})
	}
	return m
}

// P1.

func TestAnyScriptAndMessage(t *testing.T) {
	c := chance{rand.New(rand.NewSource(4))}
	for range 40000 {
		sound(t, c.of(all, all, `require ["envelope","fileinto","reject"];`)+c.commands(2), c.message())
	}
}

func TestMessagesOfAnyBytes(t *testing.T) {
	random := rand.New(rand.NewSource(5))
	some := func() string {
		b := make([]byte, random.Intn(40))
		random.Read(b)
		return string(b)
	}
	for range 5000 {
		m := api.Message{From: some(), To: some(), Size: int(random.Uint64())}
		for range random.Intn(4) {
			m.Headers = append(m.Headers, api.Header{Name: some(), Value: some()})
		}
		k := text(some())
		for _, test := range []string{`header :matches [` + k + `,"a"] ` + k, `string :matches ` + k + ` ["*?*",` + k + `]`, `envelope :contains ["from","to"] ` + k, `exists ` + k} {
			sound(t, all+`if `+test+` {fileinto "${1}";} reject `+k+`;`, m)
		}
	}
}

func TestMessagesOfGreatLength(t *testing.T) {
	long := strings.Repeat("ab*?\\", 20000)
	m := fields(long, long, "h", long, "h", long+"c")
	m.From, m.To = long, long
	for range 200 {
		m.Headers = append(m.Headers, api.Header{Name: "x", Value: "y"})
	}
	for _, test := range []string{`header :matches "h" "*a*b*c"`, `header :contains ["x","h"] "abc"`, `envelope :matches ["from","to"] "*c"`, `exists ["x","y"]`, `header :matches "h" ["` + strings.Repeat("*?", 100) + `c","*"]`,
		`allof(header :matches "h" "*",header :matches "h" "${1}",string :matches "${0}" "${1}${0}")`} {
		sound(t, all+`if `+test+` {reject "${0}";} else {fileinto "${0}";}`, m)
	}
}

func FuzzRun(f *testing.F) {
	f.Add(all+`if header :matches "h" "*-*" {fileinto "${1}";} else {redirect "${a}@b";}`, "from", "to", "h", "v-w", 1)
	f.Add(all+`set :length "a" "${0}";if string :contains "${a}" "1" {reject "${a}";} discard;`, "", "", "", "", -1)
	c := chance{rand.New(rand.NewSource(6))}
	for range 100 {
		m := c.message()
		f.Add(all+c.commands(2), m.From, m.To, c.string(), c.string(), m.Size)
	}
	f.Fuzz(func(t *testing.T, text, from, to, name, value string, size int) {
		m := fields(name, value, value, name, "a", value)
		m.From, m.To, m.Size = from, to, size
		sound(t, text, m)
	})
}

// P2.

func TestMessageIsNotKept(t *testing.T) {
	bytes := []byte("box-xy")
	value := unsafe.String(&bytes[0], len(bytes))
	s, err := parse(all + `if header :matches "h" "*-*" {fileinto "${1}";fileinto "${0}";redirect "${2}@${1}";}`)
	if err != nil {
		t.Fatal(err)
	}
	got, err := s.Run(fields("h", value))
	for i := range bytes {
		bytes[i] = '!'
	}
	if want := acts(into("box"), into("box-xy"), to("xy@box")); err != nil || !slices.Equal(got, want) {
		t.Errorf("actions were %v, and are %v, %v when the message is written into", want, got, err)
	}
}

func TestFaultsOfRunAreTheCallers(t *testing.T) {
	s, err := parse(all + `fileinto "/";`)
	if err != nil {
		t.Fatal(err)
	}
	for range 2 {
		_, err := s.Run(fields())
		var f *api.Fault
		if !errors.As(err, &f) || *f != (api.Fault{Err: api.ErrBox, At: len(all)}) {
			t.Fatal(err)
		}
		*f = api.Fault{Err: api.ErrDown, At: -1}
	}
}

func TestRunsAtTheSameTime(t *testing.T) {
	s, err := parse(all + `set "a" "${a}x";if header :matches "h" "*-*" {fileinto "${1}";fileinto "${a}";}`)
	if err != nil {
		t.Fatal(err)
	}
	var group sync.WaitGroup
	for _, v := range []string{"a", "b", "c", "d"} {
		group.Add(1)
		go func() {
			defer group.Done()
			for range 200 {
				if got, err := s.Run(fields("h", v+"-")); err != nil || !slices.Equal(got, acts(into(v), into("x"))) {
					t.Errorf("%s: %v, %v", v, got, err)
				}
			}
		}()
	}
	group.Wait()
}
