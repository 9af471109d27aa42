package mailsieve_test

import (
	"strings"
	"testing"

	"mailsieve/api"
)

// all is what lets a script use everything.
const all = `require ["envelope","fileinto","reject","variables"];`

// pieces are scripts, word by word, in which each part of the grammar stands.
func pieces() [][]string {
	var list [][]string
	for _, text := range []string{
		`require "envelope" ; require [ "fileinto" , "reject" , "variables" ] ; require [ "reject" ] ;`,
		`keep ;`,
		`discard ;`,
		`stop ;`,
		`fileinto "a" ;`,
		`redirect "a" ;`,
		`reject "a" ;`,
		`set "v" "x" ;`,
		`set :lower "v" "x" ;`,
		`set :upper "v" "x" ;`,
		`set :length "v" "x" ;`,
		`if true { }`,
		`if false { keep ; stop ; }`,
		`if true { if not false { keep ; } else { } discard ; }`,
		`if true { } elsif false { stop ; } elsif true { } else { keep ; }`,
		`if allof ( true ) { }`,
		`if anyof ( true , allof ( false , not true ) , true ) { }`,
		`if header "a" "b" { }`,
		`if header :is "a" [ "b" ] { }`,
		`if envelope :contains [ "from" , "to" ] "b" { }`,
		`if string :comparator "i;octet" :matches [ "a" ] [ "b" , "c" , "d" ] { }`,
		`if header :matches :comparator "i;ascii-casemap" "a" "b" { }`,
		`if exists "a" { }`,
		`if exists [ "a" , "b" ] { }`,
		`if size :over 1 { }`,
		`if size :under 1K { }`,
	} {
		list = append(list, strings.Split(text, " "))
	}
	return list
}

// ahead is what must stand ahead of a piece.
func ahead(piece []string) string {
	if piece[0] == "require" {
		return ""
	}
	return all
}

// ends: is the piece a script already behind so many words?
func ends(piece []string, n int) bool {
	open := 0
	for _, w := range piece[:n] {
		switch w {
		case "{":
			open++
		case "}":
			open--
		}
	}
	return n == 0 || open == 0 && (piece[n-1] == ";" || piece[n-1] == "}")
}

// P4.

func TestGrammarGoesOn(t *testing.T) {
	for _, p := range pieces() {
		for n := range len(p) + 1 {
			text := ahead(p) + strings.Join(p[:n], " ")
			if !ends(p, n) {
				refuse(t, bad{text, api.ErrSyntax, len(text)}, bad{text + " # x", api.ErrSyntax, len(text) + 4})
				continue
			}
			for _, between := range []string{" ", "\n", "/**/"} {
				if s, err := parse(ahead(p) + strings.Join(p[:n], between)); s == nil || err != nil {
					t.Errorf("%q is no script: %v", text, err)
				}
			}
		}
	}
}

func TestWordsThatStandNowhere(t *testing.T) {
	for _, p := range pieces() {
		for i := range p {
			text := ahead(p) + strings.Join(p[:i], " ") + " "
			for _, w := range []string{"foo", ":first", ":keep", ":if", "keeps", "10"} {
				if w == "10" && i > 0 && strings.Contains(":over :under", p[i-1]) {
					continue
				}
				refuse(t, bad{text + w, api.ErrSyntax, len(text)}, bad{text + w + " " + strings.Join(p[i:], " "), api.ErrSyntax, len(text)})
			}
		}
	}
}

func TestCommandsThatAreNone(t *testing.T) {
	for _, w := range []string{"addflag", "addheader", "break", "ereject", "foreverypart", "include", "notify", "return", "unset", "vacation"} {
		refuse(t, bad{w + ";", api.ErrSyntax, 0}, bad{all + w + ` "a";`, api.ErrSyntax, len(all)})
	}
	refuse(t,
		bad{"keep", api.ErrSyntax, 4},
		bad{"stop stop;", api.ErrSyntax, 5},
		bad{`keep "a";`, api.ErrSyntax, 5},
		bad{"keep;;", api.ErrSyntax, 5},
		bad{";", api.ErrSyntax, 0},
		bad{"12;", api.ErrSyntax, 0},
		bad{`"keep";`, api.ErrSyntax, 0},
		bad{"}", api.ErrSyntax, 0},
		bad{"keep;}", api.ErrSyntax, 5},
		bad{"{keep;}", api.ErrSyntax, 0},
		bad{"true;", api.ErrSyntax, 0},
		bad{"size :over 1;", api.ErrSyntax, 0},
		bad{"elsif true {}", api.ErrSyntax, 0},
		bad{"else {}", api.ErrSyntax, 0},
		bad{"if true {} keep; else {}", api.ErrSyntax, 17},
		bad{"if true {} else {} else {}", api.ErrSyntax, 19},
		bad{"if true {} else {} elsif true {}", api.ErrSyntax, 19},
		bad{"if true {} else true {}", api.ErrSyntax, 16},
		bad{"if true {};", api.ErrSyntax, 10},
		bad{"if true keep;", api.ErrSyntax, 8},
		bad{"if true {keep}", api.ErrSyntax, 13},
		bad{"if true {else {}}", api.ErrSyntax, 9},
		bad{`redirect ["a"];`, api.ErrSyntax, 9},
		bad{`redirect "a" "b";`, api.ErrSyntax, 13},
		bad{`redirect :is "a";`, api.ErrSyntax, 9},
		bad{`redirect 1;`, api.ErrSyntax, 9},
		bad{`redirect;`, api.ErrSyntax, 8},
	)
}

func TestRequiresThatAreNone(t *testing.T) {
	refuse(t,
		bad{"require [];", api.ErrSyntax, 9},
		bad{"require;", api.ErrSyntax, 7},
		bad{"require fileinto;", api.ErrSyntax, 8},
		bad{`require "fileinto" "reject";`, api.ErrSyntax, 19},
		bad{`require ["fileinto" "reject"];`, api.ErrSyntax, 20},
		bad{`require ["fileinto",];`, api.ErrSyntax, 20},
		bad{`require ("fileinto");`, api.ErrSyntax, 8},
		bad{`keep; require "fileinto";`, api.ErrSyntax, 6},
		bad{`if true {require "fileinto";}`, api.ErrSyntax, 9},
		bad{`require "fileinto"; keep; require "reject";`, api.ErrSyntax, 26},
	)
}

func TestSetsThatAreNone(t *testing.T) {
	const v = `require "variables";`
	refuse(t,
		bad{v + `set :first "a" "b";`, api.ErrSyntax, 24},
		bad{v + `set :lower :upper "a" "b";`, api.ErrSyntax, 31},
		bad{v + `set :lower :lower "a" "b";`, api.ErrSyntax, 31},
		bad{v + `set :is "a" "b";`, api.ErrSyntax, 24},
		bad{v + `set a "b";`, api.ErrSyntax, 24},
		bad{v + `set "a";`, api.ErrSyntax, 27},
		bad{v + `set "a" :lower "b";`, api.ErrSyntax, 28},
		bad{v + `set ["a"] "b";`, api.ErrSyntax, 24},
		bad{v + `set "a" ["b"];`, api.ErrSyntax, 28},
		bad{v + `set "a" 1;`, api.ErrSyntax, 28},
	)
}

func TestTestsThatAreNone(t *testing.T) {
	for _, w := range []string{"address", "body", "date", "duplicate", "ihave", "mailboxexists", "valid_notify_method"} {
		refuse(t, bad{"if " + w + ` "a" "b" {}`, api.ErrSyntax, 3})
	}
	refuse(t,
		bad{"if {}", api.ErrSyntax, 3},
		bad{"if foo {}", api.ErrSyntax, 3},
		bad{"if keep {}", api.ErrSyntax, 3},
		bad{"if (true) {}", api.ErrSyntax, 3},
		bad{"if true true {}", api.ErrSyntax, 8},
		bad{"if not {}", api.ErrSyntax, 7},
		bad{"if allof () {}", api.ErrSyntax, 10},
		bad{"if allof true {}", api.ErrSyntax, 9},
		bad{"if allof (true true) {}", api.ErrSyntax, 15},
		bad{"if allof (true,) {}", api.ErrSyntax, 15},
		bad{"if anyof (true] {}", api.ErrSyntax, 14},
		bad{"if anyof [true] {}", api.ErrSyntax, 9},
		bad{`if header "a" {}`, api.ErrSyntax, 14},
		bad{`if header "a" :is "b" {}`, api.ErrSyntax, 14},
		bad{`if header "a" "b" "c" {}`, api.ErrSyntax, 18},
		bad{`if header "a" [] {}`, api.ErrSyntax, 15},
		bad{`if header :over "a" "b" {}`, api.ErrSyntax, 10},
		bad{`if header :lower "a" "b" {}`, api.ErrSyntax, 10},
		bad{`if header :comparator :is "a" "b" {}`, api.ErrSyntax, 22},
		bad{`if header :comparator ["i;octet"] "a" "b" {}`, api.ErrSyntax, 22},
		bad{`if exists :is "a" {}`, api.ErrSyntax, 10},
		bad{`if exists "a" "b" {}`, api.ErrSyntax, 14},
		bad{`if exists [] {}`, api.ErrSyntax, 11},
		bad{`if size 10 {}`, api.ErrSyntax, 8},
		bad{`if size :over "10" {}`, api.ErrSyntax, 14},
		bad{`if size :over :under 10 {}`, api.ErrSyntax, 14},
		bad{`if size :is 10 {}`, api.ErrSyntax, 8},
		bad{`if size :over 10 20 {}`, api.ErrSyntax, 17},
	)
}

// P5.

func TestExtensionsThatAreNone(t *testing.T) {
	refuse(t,
		bad{`require "imap";`, api.ErrUse, 8},
		bad{`require "";`, api.ErrUse, 8},
		bad{`require "Fileinto";`, api.ErrUse, 8},
		bad{`require "fileinto ";`, api.ErrUse, 8},
		bad{`require "set";`, api.ErrUse, 8},
		bad{`require "string";`, api.ErrUse, 8},
		bad{`require "redirect";`, api.ErrUse, 8},
		bad{`require ["fileinto", "imap"];`, api.ErrUse, 21},
		bad{`require "reject"; require ["imap"];`, api.ErrUse, 27},
		bad{`require "reject`, api.ErrWord, 8},
	)
	accept(t, good{`require "file\into";fileinto "a";`, "require \"fileinto\";\nfileinto \"a\";\n"})
}

func TestExtensionsThatAreNotRequired(t *testing.T) {
	for _, u := range []struct {
		use  string
		at   int
		need string
	}{
		{`fileinto "a";`, 0, "fileinto"},
		{`reject "a";`, 0, "reject"},
		{`if envelope "to" "a" {}`, 3, "envelope"},
		{`set "a" "b";`, 0, "variables"},
		{`if string "a" "b" {}`, 3, "variables"},
	} {
		refuse(t, bad{u.use, api.ErrUse, u.at}, bad{strings.ToUpper(u.use), api.ErrUse, u.at})
		for _, n := range []string{"envelope", "fileinto", "reject", "variables"} {
			text := `require "` + n + `";`
			if n != u.need {
				refuse(t, bad{text + u.use, api.ErrUse, len(text) + u.at})
			} else if s, err := parse(text + u.use); s == nil || err != nil {
				t.Errorf("%q is no script: %v", text+u.use, err)
			}
		}
	}
	accept(t, good{`keep;discard;stop;redirect "a";if allof(true,header "a" "${b}",exists "a",size :over 1){}`,
		"keep;\ndiscard;\nstop;\nredirect \"a\";\nif allof (true, header \"a\" \"${b}\", exists \"a\", size :over 1) {\n}\n"})
}

// P6.

func TestArgumentsThatAreNone(t *testing.T) {
	refuse(t,
		bad{`if header :is :contains "a" "b" {}`, api.ErrArgs, 14},
		bad{`if header :is :is "a" "b" {}`, api.ErrArgs, 14},
		bad{`if header :contains :matches "a" "b" {}`, api.ErrArgs, 20},
		bad{`if header :matches :IS "a" "b" {}`, api.ErrArgs, 19},
		bad{`if header :is :comparator "i;octet" :is "a" "b" {}`, api.ErrArgs, 36},
		bad{`if header :comparator "i;octet" :comparator "i;octet" "a" "b" {}`, api.ErrArgs, 32},
		bad{`if header :comparator "i;ascii-casemap" :comparator "i;octet" "a" "b" {}`, api.ErrArgs, 40},
		bad{`if header :comparator "x" "a" "b" {}`, api.ErrArgs, 22},
		bad{`if header :comparator "I;OCTET" "a" "b" {}`, api.ErrArgs, 22},
		bad{`if header :comparator "" "a" "b" {}`, api.ErrArgs, 22},
		bad{all + `if envelope "cc" "b" {}`, api.ErrArgs, len(all) + 12},
		bad{all + `if envelope "" "b" {}`, api.ErrArgs, len(all) + 12},
		bad{all + `if envelope ["from","to","tos"] "b" {}`, api.ErrArgs, len(all) + 25},
		bad{all + `if envelope :is ["${a}"] "b" {}`, api.ErrArgs, len(all) + 17},
		bad{all + `if envelope "from" "b" {} elsif string :is :is "a" "b" {}`, api.ErrArgs, len(all) + 43},
		bad{`require "variables";set "1a" "b";`, api.ErrArgs, 24},
	)
	for _, name := range []string{"", "1", "a b", "a-b", " a", "a ", "é", "a.b", "${a}", "a\n"} {
		refuse(t, bad{all + `set "` + name + `" "b";`, api.ErrArgs, len(all) + 4}, bad{all + `set :upper "` + name + `" "b";`, api.ErrArgs, len(all) + 11})
	}
}

func TestArgumentsThatMayStand(t *testing.T) {
	const required = "require [\"envelope\", \"fileinto\", \"reject\", \"variables\"];\n"
	accept(t,
		good{`if allof(header :is "a" "b", header :is :comparator "i;octet" "a" "b") {}`, "if allof (header \"a\" \"b\", header :comparator \"i;octet\" \"a\" \"b\") {\n}\n"},
		good{all + `if envelope ["FROM","tO"] "cc" {}`, required + "if envelope [\"FROM\", \"tO\"] \"cc\" {\n}\n"},
		good{all + `set "_" "";set "Z_9" "1-";set "e\f" "";`, required + "set \"_\" \"\";\nset \"z_9\" \"1-\";\nset \"ef\" \"\";\n"},
	)
}
