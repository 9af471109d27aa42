package mailsieve_test

import (
	"testing"

	"mailsieve/mailsieve"
)

// The rows of the document's examples.

func TestExamplesOfRun(t *testing.T) {
	says(t, all,
		said{`keep;discard;`, fields(), acts(kept())},
		said{`fileinto "a";fileinto "b";fileinto "a";keep;`, fields(), acts(into("a"), into("b"), kept())},
		said{`reject "no";discard;`, fields(), acts(rejected("no"))},
		said{`if header :comparator "i;octet" "subject" "x" {discard;}`, fields("SUBJECT", "X"), acts(kept())},
		said{`if header :contains "a" "" {discard;}`, fields("a", ""), nil},
		said{`if not allof(true,not false){keep;} else {discard;}`, fields(), nil},
		said{`set "a" "x";set "B" "${A}${a}y";fileinto "${b}";`, fields(), acts(into("xxy"))},
		said{`set :upper "a" "xY1";fileinto "${a}";set :lower "a" "${a}";fileinto "${a}";set :length "a" "${a}${a}";fileinto "${a}";`, fields(),
			acts(into("XY1"), into("xy1"), into("6"))},
		said{`fileinto "x${y}z${1}";`, fields(), acts(into("xz"))},
		said{`if header :matches "a" "*-*" {fileinto "${1}.${2}";}`, fields("a", "x-y-z"), acts(into("x.y-z"))},
		said{`if header :matches "a" "?b*" {fileinto "${0}_${1}_${2}_${3}";}`, fields("a", "abcd"), acts(into("abcd_a_cd_"))},
		said{`if header :matches "a" "*B*" {fileinto "${1}_${2}";}`, fields("a", "AbBc"), acts(into("A_Bc"))},
		said{`if header :matches "a" "*a" {} if header :matches "a" "z*" {} if header :is "a" "ba" {fileinto "${1}";}`, fields("a", "ba"), acts(into("b"))},
		said{`if header :matches ["a","b"] ["z*","*"] {fileinto "${1}_${0}";}`, fields("b", "q", "a", "p"), acts(into("p_p"))},
		said{`if header :matches "a" "***" {discard;}`, fields("a", ""), nil},
	)
}

// P10.

func TestCommandsAreDoneOneByOne(t *testing.T) {
	says(t, all,
		said{``, fields(), acts(kept())},
		said{`fileinto "b";keep;fileinto "a";redirect "a@b";`, fields(), acts(into("b"), kept(), into("a"), to("a@b"))},
		said{`set "a" "1";fileinto "${a}";set "a" "2";fileinto "${a}";`, fields(), acts(into("1"), into("2"))},
	)
}

func TestOneBlockOfAnIf(t *testing.T) {
	const script = `if header "x" "1" {fileinto "one";} elsif header "x" ["1","2"] {fileinto "two";} elsif header "x" "3" {} else {fileinto "else";} fileinto "end";`
	says(t, all,
		said{script, fields("x", "1"), acts(into("one"), into("end"))},
		said{script, fields("x", "2"), acts(into("two"), into("end"))},
		said{script, fields("x", "3"), acts(into("end"))},
		said{script, fields("x", "4"), acts(into("else"), into("end"))},
		said{script, fields(), acts(into("else"), into("end"))},
		said{`if false {discard;}`, fields(), acts(kept())},
		said{`if false {discard;} elsif false {discard;}`, fields(), acts(kept())},
		said{`if true {} else {discard;}`, fields(), acts(kept())},
		said{`if true {if false {} else {if true {fileinto "in";}} fileinto "out";}`, fields(), acts(into("in"), into("out"))},
	)
}

func TestTestsOfAnIfAreAskedInOrder(t *testing.T) {
	says(t, all,
		said{`if string :matches "ab" "a?" {fileinto "${1}";} elsif string :matches "cd" "c?" {}fileinto "x${1}";`, fields(), acts(into("b"), into("xb"))},
		said{`if not string :matches "ab" "a?" {} elsif string "${1}" "b" {fileinto "y";}`, fields(), acts(into("y"))},
	)
}

func TestStopEndsAll(t *testing.T) {
	says(t, all,
		said{`stop;discard;`, fields(), acts(kept())},
		said{`keep;stop;fileinto "a";`, fields(), acts(kept())},
		said{`discard;stop;keep;`, fields(), nil},
		said{`if true {fileinto "a";if true {stop;} fileinto "b";} fileinto "c";`, fields(), acts(into("a"))},
		said{`if false {stop;} fileinto "c";`, fields(), acts(into("c"))},
		said{`if false {} else {if true {} elsif true {stop;} fileinto "a";} fileinto "b";`, fields(), acts(into("a"), into("b"))},
		said{`stop;fileinto "/";redirect "";`, fields(), acts(kept())},
		said{inside(5, `if true {stop;}`) + `discard;`, fields(), acts(kept())},
	)
}

func TestTestsOfTests(t *testing.T) {
	holding(t, fields(), true, `true`, `not false`, `not not true`, `allof(true)`, `allof(true,true,true)`, `anyof(true)`, `anyof(false,true)`, `anyof(false,false,true)`,
		`anyof(true,false)`, `not allof(true,false)`, `not anyof(false,false)`, `allof(anyof(false,true),not allof(false))`, `not not not not true`)
	holding(t, fields(), false, `false`, `not true`, `allof(false)`, `allof(true,true,false)`, `allof(false,true)`, `anyof(false)`, `anyof(false,false,false)`,
		`allof(anyof(false),true)`, `anyof(allof(true,false),not true)`)
}

// TestNoMoreTestsThanNeeded: a test of wildcards that is asked leaves a mark.
func TestNoMoreTestsThanNeeded(t *testing.T) {
	const mark, first = `string :matches "new" "*"`, `string :matches "old" "*"`
	for test, want := range map[string]string{
		`anyof(` + first + `,` + mark + `)`:                  "old",
		`anyof(true,` + mark + `)`:                           "",
		`anyof(false,` + mark + `)`:                          "new",
		`anyof(false,` + first + `,` + mark + `)`:            "old",
		`allof(` + first + `,` + mark + `)`:                  "new",
		`allof(` + first + `,false,` + mark + `)`:            "old",
		`allof(false,` + mark + `)`:                          "",
		`allof(not ` + first + `,` + mark + `)`:              "old",
		`anyof(not ` + first + `,` + mark + `)`:              "new",
		`anyof(allof(` + first + `,false),` + mark + `)`:     "new",
		`not anyof(` + first + `,` + mark + `)`:              "old",
		`allof(anyof(true,` + mark + `),` + first + `)`:      "old",
		`anyof(allof(false,` + mark + `),not ` + first + `)`: "old",
	} {
		says(t, all, said{`if ` + test + `{} fileinto "a${1}";`, fields(), acts(into("a" + want))})
	}
}

// P11.

func TestActionsOnce(t *testing.T) {
	says(t, all,
		said{`keep;keep;keep;`, fields(), acts(kept())},
		said{`fileinto "a";redirect "a@b";fileinto "a";keep;redirect "a@b";keep;`, fields(), acts(into("a"), to("a@b"), kept())},
		said{`fileinto "a";fileinto "A";`, fields(), acts(into("a"), into("A"))},
		said{`redirect "a@b";redirect "A@b";redirect "a@b";`, fields(), acts(to("a@b"), to("A@b"))},
		said{`set "a" "x";fileinto "${a}";fileinto "x";fileinto "x${b}";`, fields(), acts(into("x"))},
		said{`reject "no";reject "no";`, fields(), acts(rejected("no"))},
		said{`reject "";reject "";`, fields(), acts(rejected(""))},
	)
}

func TestWhenMessagesAreKept(t *testing.T) {
	says(t, all,
		said{`discard;`, fields(), nil},
		said{`discard;discard;`, fields(), nil},
		said{`discard;keep;`, fields(), acts(kept())},
		said{`keep;discard;`, fields(), acts(kept())},
		said{`discard;fileinto "a";`, fields(), acts(into("a"))},
		said{`fileinto "a";`, fields(), acts(into("a"))},
		said{`redirect "a@b";`, fields(), acts(to("a@b"))},
		said{`reject "no";`, fields(), acts(rejected("no"))},
		said{`discard;reject "no";`, fields(), acts(rejected("no"))},
		said{`set "a" "b";`, fields(), acts(kept())},
		said{`if true {}`, fields(), acts(kept())},
		said{`if false {discard;}`, fields(), acts(kept())},
		said{`if true {discard;}`, fields(), nil},
	)
}

func TestNoScriptIsAnEmptyOne(t *testing.T) {
	var none *mailsieve.Script
	for _, s := range []*mailsieve.Script{none, {}} {
		if got, err := s.Run(fields("a", "b")); err != nil || len(got) != 1 || got[0] != kept() {
			t.Errorf("no script says %v, %v", got, err)
		}
	}
}
