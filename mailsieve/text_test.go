package mailsieve_test

import (
	"strings"
	"testing"

	"mailsieve/api"
)

// The rows of the document's examples.

func TestExamplesThatAreNoScripts(t *testing.T) {
	refuse(t,
		bad{`keep`, api.ErrSyntax, 4},
		bad{`/* x`, api.ErrWord, 0},
		bad{`fileinto "a";`, api.ErrUse, 0},
		bad{`require "imap";`, api.ErrUse, 8},
		bad{`require [];`, api.ErrSyntax, 9},
		bad{`require "variables";set "1a" "b";`, api.ErrArgs, 24},
		bad{`require "variables";set :first "a" "b";`, api.ErrSyntax, 24},
		bad{`if {}`, api.ErrSyntax, 3},
		bad{`if allof () {}`, api.ErrSyntax, 10},
		bad{`if header :is :contains "a" "b" {}`, api.ErrArgs, 14},
		bad{`if header :comparator "x" "a" "b" {}`, api.ErrArgs, 22},
		bad{`if envelope "from" "b" {}`, api.ErrUse, 3},
		bad{`if size :over 2147483648 {}`, api.ErrNumber, 14},
		bad{`if size :over 10Kb {}`, api.ErrWord, 14},
		bad{`if : true {}`, api.ErrWord, 3},
		bad{`if not not not not not not true {}`, api.ErrNest, 27},
	)
}

func TestExamplesThatAreWritten(t *testing.T) {
	accept(t,
		good{`KEEP ;`, "keep;\n"},
		good{`if size :over 10K {} elsif size :under 1m {}`, "if size :over 10240 {\n} elsif size :under 1048576 {\n}\n"},
	)
}

// P9.

func TestRequiresAreWritten(t *testing.T) {
	accept(t,
		good{`require "reject";`, "require \"reject\";\n"},
		good{`require ["reject"];`, "require \"reject\";\n"},
		good{`require ["reject","reject"];require "reject";`, "require \"reject\";\n"},
		good{`require ["variables","fileinto"];require ["fileinto","envelope","variables"];require "reject";keep;`,
			"require [\"variables\", \"fileinto\", \"envelope\", \"reject\"];\nkeep;\n"},
	)
}

func TestCommandsAreWritten(t *testing.T) {
	const required = "require [\"envelope\", \"fileinto\", \"reject\", \"variables\"];\n"
	accept(t,
		good{all + `keep;discard;stop;fileinto "A";redirect "B";reject "C";`, required + "keep;\ndiscard;\nstop;\nfileinto \"A\";\nredirect \"B\";\nreject \"C\";\n"},
		good{all + `set "V" "X";set :LOWER "V" "X";set :upper "V" "X";set :length "V" "X";`,
			required + "set \"v\" \"X\";\nset :lower \"v\" \"X\";\nset :upper \"v\" \"X\";\nset :length \"v\" \"X\";\n"},
		good{all + `set "v" "a\"\\\b";fileinto "\"";reject "";`, required + "set \"v\" \"a\\\"\\\\b\";\nfileinto \"\\\"\";\nreject \"\";\n"},
	)
}

func TestBlocksAreWritten(t *testing.T) {
	accept(t,
		good{"if true {}", "if true {\n}\n"},
		good{"if true {} else {}", "if true {\n} else {\n}\n"},
		good{"if true {keep;} elsif false {stop;} elsif true {} else {discard;keep;}",
			"if true {\n  keep;\n} elsif false {\n  stop;\n} elsif true {\n} else {\n  discard;\n  keep;\n}\n"},
		good{"if true {if true {keep;} elsif true {keep;} else {if true {stop;}} keep;} stop;",
			"if true {\n  if true {\n    keep;\n  } elsif true {\n    keep;\n  } else {\n    if true {\n      stop;\n    }\n  }\n  keep;\n}\nstop;\n"},
	)
	want := ""
	for i := range 6 {
		want += strings.Repeat("  ", i) + "if true {\n"
	}
	want += strings.Repeat("  ", 6) + "keep;\n"
	for i := range 6 {
		want += strings.Repeat("  ", 5-i) + "}\n"
	}
	accept(t, good{inside(6, "keep;"), want})
}

func TestTestsAreWritten(t *testing.T) {
	const required = "require [\"envelope\", \"fileinto\", \"reject\", \"variables\"];\n"
	for test, want := range map[string]string{
		`true`:          `true`,
		`FALSE`:         `false`,
		`not not false`: `not not false`,
		`allof(true)`:   `allof (true)`,
		`anyof(true,not allof(false,true),exists "a")`: `anyof (true, not allof (false, true), exists "a")`,
		`exists["a","b","c"]`:                          `exists ["a", "b", "c"]`,
		`exists["a"]`:                                  `exists "a"`,
		`exists["a","a"]`:                              `exists ["a", "a"]`,
		`size:under 010`:                               `size :under 10`,
		`size:over 1M`:                                 `size :over 1048576`,
		`header "A" "B"`:                               `header "A" "B"`,
		`header :is "a" "b"`:                           `header "a" "b"`,
		`header :matches ["a","b"] ["c"]`:              `header :matches ["a", "b"] "c"`,
		`header :contains "a" ["b","c"]`:               `header :contains "a" ["b", "c"]`,
		`header :comparator "i;ascii-casemap" "a" "b"`: `header "a" "b"`,
		`header :comparator "i;octet" "a" "b"`:         `header :comparator "i;octet" "a" "b"`,
		`header :is :comparator "i;octet" "a" "b"`:     `header :comparator "i;octet" "a" "b"`,
		`header :matches :comparator "i;octet" "a" ""`: `header :comparator "i;octet" :matches "a" ""`,
		`envelope :CONTAINS ["From","to"] "\\"`:        `envelope :contains ["From", "to"] "\\"`,
		`string :comparator "i;octet" "\${a}" "b"`:     `string :comparator "i;octet" "${a}" "b"`,
	} {
		accept(t, good{all + "if " + test + "{}", required + "if " + want + " {\n}\n"})
	}
}

func TestWhatIsWrittenIsTheScript(t *testing.T) {
	for _, p := range pieces() {
		s, err := parse(ahead(p) + strings.Join(p, " "))
		if err != nil {
			t.Errorf("%q: %v", p, err)
			continue
		}
		accept(t, good{s.Text(), s.Text()})
	}
}
