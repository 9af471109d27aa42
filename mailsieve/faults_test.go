package mailsieve_test

import (
	"strings"
	"testing"

	"mailsieve/api"
)

// P16: boxes.

func TestBoxes(t *testing.T) {
	for _, box := range []string{"a", "Z", "0", "_", "-", "a.", "a.b", "-.-", "work.x", "INBOX", "1.2.3", "a..b", "sixteen-letters_", "0123456789abcdef", "-..............."} {
		says(t, all, said{`fileinto "` + box + `";`, fields(), acts(into(box))})
	}
	for _, box := range []string{"", ".", ".a", "..", "a/b", "/", "a b", " a", "a ", "a\n", "é", "a\x00", "\xff", "a@b", "a+b", "a:b", "a*", "$", "${", "seventeen-letters", "0123456789abcdefg", strings.Repeat("a", 400)} {
		faults(t, fails{`fileinto ` + text(box) + `;`, fields(), api.ErrBox, 0}, fails{`keep; fileinto ` + text(box) + `;`, fields(), api.ErrBox, 6})
	}
	for i := range 256 {
		c := string([]byte{byte(i)})
		plain := strings.Contains("abcdefghijklmnopqrstuvwxyzABCDEFGHIJKLMNOPQRSTUVWXYZ_0123456789-", c)
		for _, box := range []string{c, "a" + c + "a"} {
			if plain || box == "a.a" {
				says(t, all, said{`fileinto ` + text(box) + `;`, fields(), acts(into(box))})
			} else {
				faults(t, fails{`fileinto ` + text(box) + `;`, fields(), api.ErrBox, 0})
			}
		}
	}
}

// P16: addresses.

func TestAddresses(t *testing.T) {
	for _, a := range []string{"a@b", "0@é", "a@b.c", "\xff@\x00", "\"@\\", "a+b@c", strings.Repeat("a", 15) + "@" + strings.Repeat("b", 16), strings.Repeat("a", 30) + "@b", "a@" + strings.Repeat("b", 30)} {
		says(t, "", said{`redirect ` + text(a) + `;`, fields(), acts(to(a))})
	}
	for _, a := range []string{"", "a", "ab", "abc", "@", "@a", "a@", "@@", "a@b@c", "a@@b", "@a@", "@ab", "ab@", "@@@", "a @b", "a@b ", " a@b", "a@\tb", "a@\nb", "a\r@b", strings.Repeat("a", 32),
		strings.Repeat("a", 16) + "@" + strings.Repeat("b", 16), strings.Repeat("a", 31) + "@b", strings.Repeat("a@", 20)} {
		faults(t, fails{`redirect ` + text(a) + `;`, fields(), api.ErrAddr, 0}, fails{`if true { redirect ` + text(a) + `;}`, fields(), api.ErrAddr, 10})
	}
	for i := range 256 {
		c := string([]byte{byte(i)})
		for _, a := range []string{c + "a@b", "a" + c + "@b", "a@" + c + "b", "a@b" + c} {
			if strings.Contains(" \t\n\r@", c) {
				faults(t, fails{`redirect ` + text(a) + `;`, fields(), api.ErrAddr, 0})
			} else {
				says(t, all, said{`set "a" "";redirect ` + text(a) + `;`, fields(), acts(to(a))})
			}
		}
	}
}

// P16: rejects.

func TestRejectsStandAlone(t *testing.T) {
	faults(t,
		fails{`keep;reject "no";`, fields(), api.ErrConflict, 5},
		fails{`fileinto "a";reject "no";`, fields(), api.ErrConflict, 13},
		fails{`redirect "a@b";reject "no";`, fields(), api.ErrConflict, 15},
		fails{`reject "no";keep;`, fields(), api.ErrConflict, 12},
		fails{`reject "no";fileinto "a";`, fields(), api.ErrConflict, 12},
		fails{`reject "no";redirect "a@b";`, fields(), api.ErrConflict, 12},
		fails{`reject "no";reject "nay";`, fields(), api.ErrConflict, 12},
		fails{`reject "no";reject "NO";`, fields(), api.ErrConflict, 12},
		fails{`reject "no";reject "no";reject "";`, fields(), api.ErrConflict, 24},
		fails{`reject "";if true {discard; keep;}`, fields(), api.ErrConflict, 28},
	)
	says(t, all,
		said{`reject "no";discard;reject "no";`, fields(), acts(rejected("no"))},
		said{`reject "no";stop;keep;`, fields(), acts(rejected("no"))},
		said{`discard;reject "no";`, fields(), acts(rejected("no"))},
		said{`reject "";`, fields(), acts(rejected(""))},
		said{`reject "a` + "\n\x00\xff" + `b";`, fields(), acts(rejected("a\n\x00\xffb"))},
	)
}

func TestReasonsAreCut(t *testing.T) {
	for _, n := range []int{0, 1, 47, 48, 49, 60, 300} {
		reason := strings.Repeat("ab", n/2) + strings.Repeat("z", n%2)
		says(t, all, said{`reject "` + reason + `";`, fields(), acts(rejected(reason[:min(n, 48)]))})
	}
	x := strings.Repeat("x", 48)
	says(t, all,
		said{`reject "` + x + `1";reject "` + x + `2";reject "` + x + `";`, fields(), acts(rejected(x))},
		said{`if header :matches "h" "*" {reject "${0}";}`, fields("h", many1024()), acts(rejected(many1024()[:48]))},
	)
	faults(t, fails{`reject "` + x + `";reject "` + x[1:] + `";`, fields(), api.ErrConflict, 58})
}

// P16: six actions.

func TestActionsAreSixAtTheMost(t *testing.T) {
	const six = `keep;fileinto "1";fileinto "2";redirect "a@3";fileinto "4";redirect "a@5";`
	done := acts(kept(), into("1"), into("2"), to("a@3"), into("4"), to("a@5"))
	says(t, all,
		said{six, fields(), done},
		said{six + `discard;`, fields(), done},
		said{six + six, fields(), done},
		said{six + `redirect "a@3";fileinto "2";keep;`, fields(), done},
		said{six + `stop;fileinto "7";`, fields(), done},
		said{six + `if false {fileinto "7";}`, fields(), done},
	)
	faults(t,
		fails{six + `fileinto "7";`, fields(), api.ErrActions, len(six)},
		fails{six + `redirect "a@7";`, fields(), api.ErrActions, len(six)},
		fails{six + six + ` fileinto "7"; fileinto "8";`, fields(), api.ErrActions, 2*len(six) + 1},
		fails{six[5:] + `fileinto "6";keep;`, fields(), api.ErrActions, len(six) - 5 + 13},
	)
}

func TestActionsOfTwoFaults(t *testing.T) {
	const six = `keep;fileinto "1";fileinto "2";fileinto "3";fileinto "4";fileinto "5";`
	faults(t,
		fails{`reject "no";fileinto "/";`, fields(), api.ErrBox, 12},
		fails{`reject "no";redirect "a";`, fields(), api.ErrAddr, 12},
		fails{six + `fileinto "/";`, fields(), api.ErrBox, len(six)},
		fails{six + `redirect "a";`, fields(), api.ErrAddr, len(six)},
		fails{six + `reject "no";`, fields(), api.ErrConflict, len(six)},
	)
}

func TestTheFirstFaultIsTold(t *testing.T) {
	faults(t,
		fails{`fileinto "/";redirect "";`, fields(), api.ErrBox, 0},
		fails{`redirect "";fileinto "/";`, fields(), api.ErrAddr, 0},
		fails{`discard;if true {} # x
			fileinto "";`, fields(), api.ErrBox, 26},
		fails{`keep;if header "a" "b" {FILEINTO "${a}";}`, fields("a", "b"), api.ErrBox, 24},
		fails{`if true {} else {} if false {} elsif true { /* */ redirect "${1}"; }`, fields(), api.ErrAddr, 50},
		fails{`discard;fileinto ".";stop;`, fields(), api.ErrBox, 8},
	)
	says(t, all, said{`if header "a" "c" {fileinto "/";}`, fields("a", "b"), acts(kept())})
}
