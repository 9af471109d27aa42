package mailsieve_test

import (
	"strings"
	"testing"

	"mailsieve/api"
)

// deep is an if whose test stands n deep, ahead of what is behind it.
func deep(n int, test string) string {
	return "if " + strings.Repeat("not ", n-1) + test
}

// inside is a command that stands n deep.
func inside(n int, command string) string {
	return strings.Repeat("if true{", n) + command + strings.Repeat("}", n)
}

// P7.

func TestTestsStandSixDeep(t *testing.T) {
	for _, test := range []string{"true", "false", `header "a" "b"`, `envelope "to" "b"`, `string "a" "b"`, `exists "a"`, "size :over 1"} {
		at := len(all + deep(7, ""))
		refuse(t, bad{all + deep(7, test) + " {}", api.ErrNest, at}, bad{all + deep(7, test), api.ErrNest, at})
		if s, err := parse(all + deep(6, test) + " {}"); s == nil || err != nil {
			t.Errorf("%q six deep: %v", test, err)
		}
	}
	accept(t, good{"if anyof(allof(anyof(allof(anyof(true,false,true),true),true),true),true){}", "if anyof (allof (anyof (allof (anyof (true, false, true), true), true), true), true) {\n}\n"})
	refuse(t,
		bad{"if not not not not not not true {}", api.ErrNest, 27},
		bad{"if not not not not not not not not true {}", api.ErrNest, 27},
		bad{"if anyof(anyof(anyof(anyof(anyof(anyof(true)))))) {}", api.ErrNest, 39},
		bad{"if anyof(anyof(anyof(anyof(anyof(true,not true))))) {}", api.ErrNest, 42},
		bad{"if true{} elsif not not not not not not true {}", api.ErrNest, 40},
	)
}

func TestCommandsStandSixDeep(t *testing.T) {
	for _, command := range []string{"keep;", "discard;", "stop;", `redirect "a";`, `fileinto "a";`, `reject "a";`, `set "a" "b";`} {
		if s, err := parse(all + inside(6, command)); s == nil || err != nil {
			t.Errorf("%q six deep: %v", command, err)
		}
	}
	refuse(t,
		bad{inside(7, ""), api.ErrNest, 51},
		bad{inside(6, "if true {}"), api.ErrNest, 51},
		bad{inside(6, "if $"), api.ErrWord, 51},
		bad{inside(5, "if not true {}"), api.ErrNest, 47},
		bad{inside(5, "if true {} elsif not true {}"), api.ErrNest, 61},
		bad{inside(5, "if true {} else {if true {}}"), api.ErrNest, 60},
		bad{inside(5, "if true {} elsif true {if true {}}"), api.ErrNest, 66},
	)
	accept(t,
		good{"if true{} else {if true{} else {if true{} else {keep;}}}", "if true {\n} else {\n  if true {\n  } else {\n    if true {\n    } else {\n      keep;\n    }\n  }\n}\n"},
		good{strings.Repeat("if true{}", 20), strings.Repeat("if true {\n}\n", 20)},
		good{"if true{}" + strings.Repeat("elsif not true{}", 20), "if true {\n" + strings.Repeat("} elsif not true {\n", 20) + "}\n"},
	)
}

// P8: of two faults of one word, or of two words.

func TestOneWordOfTwoFaults(t *testing.T) {
	refuse(t,
		bad{deep(7, "$"), api.ErrWord, 27},
		bad{deep(7, "10g"), api.ErrWord, 27},
		bad{deep(7, "2147483648"), api.ErrNumber, 27},
		bad{deep(7, "99999999999g"), api.ErrWord, 27},
		bad{deep(7, "foo"), api.ErrNest, 27},
		bad{deep(7, "keep"), api.ErrNest, 27},
		bad{deep(7, "envelope"), api.ErrNest, 27},
		bad{deep(7, "string"), api.ErrNest, 27},
		bad{deep(7, "{"), api.ErrSyntax, 27},
		bad{deep(7, ":is"), api.ErrSyntax, 27},
		bad{deep(7, `"true"`), api.ErrSyntax, 27},
		bad{deep(7, "1"), api.ErrSyntax, 27},
		bad{deep(7, ""), api.ErrSyntax, 27},
		bad{"envelope", api.ErrSyntax, 0},
		bad{"string", api.ErrSyntax, 0},
		bad{"if fileinto", api.ErrSyntax, 3},
		bad{"if set", api.ErrSyntax, 3},
		bad{`keep "`, api.ErrWord, 5},
		bad{"keep 2147483648", api.ErrNumber, 5},
		bad{`require "fileinto" "imap";`, api.ErrSyntax, 19},
		bad{`if size :is :is`, api.ErrSyntax, 8},
	)
}

func TestFirstOfTwoFaults(t *testing.T) {
	const v = `require "variables";`
	for _, behind := range []string{"", " $", " \"", " /*", " 2147483648", " 10g", " :", " foo", " ;", " }", " not", " :is", ` "imap"`, " keep;"} {
		refuse(t,
			bad{"fileinto" + behind, api.ErrUse, 0},
			bad{"set" + behind, api.ErrUse, 0},
			bad{"if string" + behind, api.ErrUse, 3},
			bad{"foo" + behind, api.ErrSyntax, 0},
			bad{"keep keep" + behind, api.ErrSyntax, 5},
			bad{`require "imap"` + behind, api.ErrUse, 8},
			bad{`require ["imap"` + behind, api.ErrUse, 9},
			bad{deep(7, "true") + behind, api.ErrNest, 27},
			bad{"if header :is :contains" + behind, api.ErrArgs, 14},
			bad{`if header :comparator "i;octet" :comparator` + behind, api.ErrArgs, 32},
			bad{`if header :comparator "x"` + behind, api.ErrArgs, 22},
			bad{`require "envelope";if envelope ["cc"` + behind, api.ErrArgs, 32},
			bad{v + `set "1a"` + behind, api.ErrArgs, 24},
			bad{"$" + behind, api.ErrWord, 0},
			bad{"2147483648" + behind, api.ErrNumber, 0},
			bad{": " + behind, api.ErrWord, 0},
		)
	}
	for _, e := range []struct {
		behind string
		e      api.Errno
	}{{"$", api.ErrWord}, {"2147483648", api.ErrNumber}, {"foo", api.ErrSyntax}, {"fileinto", api.ErrUse}, {`"`, api.ErrWord}, {"/*", api.ErrWord}} {
		refuse(t, bad{"keep; " + e.behind, e.e, 6}, bad{"if true {} " + e.behind, e.e, 11}, bad{"if true { " + e.behind, e.e, 10})
	}
}
