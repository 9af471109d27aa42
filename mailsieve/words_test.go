package mailsieve_test

import (
	"strings"
	"testing"

	"mailsieve/api"
)

// P3: the text's length.

func TestLengthOfText(t *testing.T) {
	for _, end := range []string{"keep;", "keep", "$", "\"", "é", ""} {
		text := strings.Repeat(" ", api.MaxText+1-len(end)) + end
		s, err := parse(text)
		if s != nil || err != error(api.ErrLong) {
			t.Errorf("601 bytes that end in %q: %v, %v, want ErrLong without a place", end, s, err)
		}
	}
	if s, err := parse("keep" + strings.Repeat("$", 5000)); s != nil || err != error(api.ErrLong) {
		t.Errorf("5004 bytes: %v, %v", s, err)
	}
	accept(t, good{"", ""}, good{strings.Repeat(" ", 600), ""}, good{strings.Repeat(" ", 595) + "keep;", "keep;\n"})
	refuse(t, bad{strings.Repeat(" ", 599) + "$", api.ErrWord, 599}, bad{strings.Repeat(" ", 596) + "keep", api.ErrSyntax, 600})
}

// P3: words.

func TestEachByteAlone(t *testing.T) {
	for i := range 256 {
		text := string([]byte{byte(i)})
		switch {
		case strings.Contains(" \t\n\r#", text):
			accept(t, good{text, ""})
		case strings.Contains("abcdefghijklmnopqrstuvwxyzABCDEFGHIJKLMNOPQRSTUVWXYZ_0123456789;,(){}[]", text):
			refuse(t, bad{text, api.ErrSyntax, 0})
		default:
			refuse(t, bad{text, api.ErrWord, 0}, bad{"keep;" + text, api.ErrWord, 5}, bad{"keep" + text, api.ErrWord, 4})
		}
	}
}

func TestNames(t *testing.T) {
	accept(t,
		good{"KEEP ;", "keep;\n"},
		good{"kEeP;DISCARD;stoP;", "keep;\ndiscard;\nstop;\n"},
		good{"IF TRUE{}ELSIF NOT FALSE{}ELSE{}", "if true {\n} elsif not false {\n} else {\n}\n"},
		good{"REQUIRE\"variables\";SET\"A_9\"\"B\";", "require \"variables\";\nset \"a_9\" \"B\";\n"},
		good{"if ANYOF(ALLOF(true),EXISTS\"a\"){}", "if anyof (allof (true), exists \"a\") {\n}\n"},
	)
	refuse(t,
		bad{"keep_;", api.ErrSyntax, 0},
		bad{"keep1;", api.ErrSyntax, 0},
		bad{"_keep;", api.ErrSyntax, 0},
		bad{"keep-;", api.ErrWord, 4},
		bad{"keepé;", api.ErrWord, 4},
		bad{"\u212aeep;", api.ErrWord, 0}, // a letter whose small form is k
		bad{"k eep;", api.ErrSyntax, 0},
	)
}

func TestTags(t *testing.T) {
	accept(t,
		good{"if size:over 1{}", "if size :over 1 {\n}\n"},
		good{"if size :OVER 1{}", "if size :over 1 {\n}\n"},
		good{"if header:Contains:COMPARATOR\"i;octet\"\"a\"\"b\"{}", "if header :comparator \"i;octet\" :contains \"a\" \"b\" {\n}\n"},
	)
	refuse(t,
		bad{"if size : over 1 {}", api.ErrWord, 8},
		bad{"if size :/**/over 1 {}", api.ErrWord, 8},
		bad{"if size :1over 1 {}", api.ErrWord, 8},
		bad{"if size ::over 1 {}", api.ErrWord, 8},
		bad{"if size :", api.ErrWord, 8},
		bad{"if size :é 1 {}", api.ErrWord, 8},
		bad{"if size :_ 1 {}", api.ErrSyntax, 8},
		bad{"if size :over1 {}", api.ErrSyntax, 8},
		bad{"if size over 1 {}", api.ErrSyntax, 8},
		bad{":keep;", api.ErrSyntax, 0},
	)
}

func TestNumbers(t *testing.T) {
	for text, want := range map[string]string{
		"0": "0", "007": "7", "1": "1", "2147483647": "2147483647",
		"10K": "10240", "10k": "10240", "1M": "1048576", "1m": "1048576", "0K": "0", "0M": "0",
		"2097151K": "2147482624", "2047M": "2146435072",
		strings.Repeat("0", 500) + "12K": "12288",
	} {
		accept(t, good{"if size :over " + text + " {}", "if size :over " + want + " {\n}\n"}, good{"if size :under " + text + "{}", "if size :under " + want + " {\n}\n"})
	}
	for _, text := range []string{
		"2147483648", "2147483649", "4294967296", "4294967297", "9223372036854775807", "9223372036854775808",
		"18446744073709551616", "18446744073709551617", strings.Repeat("9", 580),
		"2097152K", "2097152k", "2147483647K", "2048M", "2048m", "4096M", "2147483647M", "17592186044416M", strings.Repeat("1", 500) + "M",
	} {
		refuse(t, bad{"if size :over " + text + " {}", api.ErrNumber, 14}, bad{text, api.ErrNumber, 0}, bad{"keep;" + text, api.ErrNumber, 5})
	}
	for _, text := range []string{"10Kb", "10g", "10KK", "10MK", "10k1", "10K_", "10_", "1a", "1M0", "99999999999g", "99999999999Mm"} {
		refuse(t, bad{"if size :over " + text + " {}", api.ErrWord, 14}, bad{text, api.ErrWord, 0})
	}
	refuse(t,
		bad{"if size :over 10 K {}", api.ErrSyntax, 17},
		bad{"if size :over -1 {}", api.ErrWord, 14},
		bad{"if size :over 1.5 {}", api.ErrWord, 15},
		bad{"if size :over 1é {}", api.ErrWord, 15},
		bad{"if size :over 1:over {}", api.ErrSyntax, 15},
		bad{"if size :over 1\"\" {}", api.ErrSyntax, 15},
	)
}

func TestStrings(t *testing.T) {
	accept(t,
		good{`redirect "";`, "redirect \"\";\n"},
		good{`redirect"a";`, "redirect \"a\";\n"},
		good{`redirect "a\"b\\c\d";`, "redirect \"a\\\"b\\\\cd\";\n"},
		good{`redirect "\\";`, "redirect \"\\\\\";\n"},
		good{"redirect \"a\nb\t\r\x00\xff#/*é\";", "redirect \"a\nb\t\r\x00\xff#/*é\";\n"},
		good{"redirect \"\\\n\\\xff\\\x00\";", "redirect \"\n\xff\x00\";\n"},
		good{`redirect "KeEp";`, "redirect \"KeEp\";\n"},
		good{`redirect ";";redirect "{";`, "redirect \";\";\nredirect \"{\";\n"},
		good{`if exists["a","]"]{}`, "if exists [\"a\", \"]\"] {\n}\n"},
	)
}

func TestStringsThatDoNotEnd(t *testing.T) {
	refuse(t,
		bad{`"`, api.ErrWord, 0},
		bad{`redirect "`, api.ErrWord, 9},
		bad{`redirect "a;`, api.ErrWord, 9},
		bad{`redirect "a\`, api.ErrWord, 9},
		bad{`redirect "a\"`, api.ErrWord, 9},
		bad{`redirect "a\\\"`, api.ErrWord, 9},
		bad{`redirect "a\\";"`, api.ErrWord, 15},
		bad{`keep; "a`, api.ErrWord, 6},
		bad{"redirect 'a';", api.ErrWord, 9},
	)
}

func TestBlanksAndComments(t *testing.T) {
	for _, between := range []string{" ", "\t", "\n", "\r", "\r\n", " \t\n\r ", "#\n", "# x /* \" é\n", "#\n#\n", "/**/", "/***/", "/* \" # é */", "/*/*/", "/*\n*/", "/*a*//*b*/", "# a\r\n/* b */ "} {
		accept(t,
			good{between, ""},
			good{"stop" + between + ";", "stop;\n"},
			good{between + "if" + between + "true" + between + "{" + between + "}" + between, "if true {\n}\n"},
		)
		refuse(t, bad{"keep;" + between + "$", api.ErrWord, 5 + len(between)}, bad{"keep" + between, api.ErrSyntax, 4 + len(between)})
	}
	accept(t,
		good{"#", ""},
		good{"# keep;", ""},
		good{"# keep;\rkeep;", ""},
		good{"# a\nkeep; # e", "keep;\n"},
		good{"keep;/***/stop;/**/", "keep;\nstop;\n"},
		good{"if/**/true{}", "if true {\n}\n"},
	)
	refuse(t,
		bad{"keep\v;", api.ErrWord, 4},
		bad{"keep\f;", api.ErrWord, 4},
		bad{"keep\u00a0;", api.ErrWord, 4},
		bad{"ke/**/ep;", api.ErrSyntax, 0},
		bad{"keep # ;", api.ErrSyntax, 8},
		bad{"/* a */ */", api.ErrWord, 8},
		bad{"/", api.ErrWord, 0},
		bad{"//", api.ErrWord, 0},
		bad{"keep / * */;", api.ErrWord, 5},
	)
}

func TestCommentsThatDoNotEnd(t *testing.T) {
	refuse(t,
		bad{"/* x", api.ErrWord, 0},
		bad{"/*", api.ErrWord, 0},
		bad{"/*/", api.ErrWord, 0},
		bad{"/**", api.ErrWord, 0},
		bad{"/* *", api.ErrWord, 0},
		bad{"/* * /", api.ErrWord, 0},
		bad{"keep; /* a */ /* # */ /* b", api.ErrWord, 22},
		bad{"keep /*;", api.ErrWord, 5},
		bad{"keep;# a\n/*", api.ErrWord, 9},
	)
}
