package mailsieve_test

import (
	"strconv"
	"strings"
	"testing"

	"mailsieve/api"
)

// text is a string in the words of a script.
func text(s string) string {
	return `"` + strings.ReplaceAll(strings.ReplaceAll(s, `\`, `\\`), `"`, `\"`) + `"`
}

// reads asks what strings are when these commands were done.
func reads(t *testing.T, ahead string, list map[string]string) {
	t.Helper()
	for s, want := range list {
		says(t, all, said{ahead + `reject ` + text(s) + `;`, fields(), acts(rejected(want))})
	}
}

// P12: variables in strings.

func TestVariablesInStrings(t *testing.T) {
	reads(t, `set "a" "1";set "Bc_9" "two";set "_" "u";set "x" "";`, map[string]string{
		`${a}`: `1`, `${A}`: `1`, `${bc_9}`: `two`, `${BC_9}`: `two`, `${Bc_9}`: `two`, `${_}`: `u`, `${x}`: ``,
		`-${a}-${a}${bc_9}-`: `-1-1two-`, `${b}`: ``, `${aa}`: ``, `${a}}`: `1}`, `{${a}}`: `{1}`, ``: ``,
	})
}

func TestWhatIsNearlyAVariable(t *testing.T) {
	list := map[string]string{}
	for _, s := range []string{`$`, `${`, `${}`, `$a`, `$a}`, `{a}`, `${a`, `${ a}`, `${a }`, `${a-b}`, `${a.b}`, `${1a}`, `${10}`, `${00}`, `${-1}`, `$ {a}`, `$\{a}`, `${é}`, `${a` + "\n}",
		`${a` + "\x00}", `$()`, `%{a}`, `${1`, `${`, `$}`, `${*}`, `${a:b}`, `${a\}`} {
		list[s] = s
	}
	for s, want := range map[string]string{`$${a}`: `$1`, `${${a}`: `${1`, `${${a}}`: `${1}`, `${a${a}}`: `${a1}`, `${a${a}`: `${a1`, `${1${a}`: `${11`, `$$$${a}$`: `$$$1$`, `${a}${`: `1${`, `${10}${a}`: `${10}1`} {
		list[s] = want
	}
	reads(t, `set "a" "1";`, list)
}

func TestValuesAreNotReadAgain(t *testing.T) {
	reads(t, `set "a" "x";set "d" "$";set "b" "${d}{a}";`, map[string]string{`${b}`: `${a}`, `${d}{a}`: `${a}`, `${d}${b}`: `$${a}`})
	says(t, all, said{`if header :matches "h" "*" {set "v" "${1}";reject "${v}";}`, fields("h", "${v}${0}"), acts(rejected("${v}${0}"))})
}

func TestWithoutVariablesStringsStandForThemselves(t *testing.T) {
	const some = `require ["fileinto","reject","envelope"];`
	says(t, some,
		said{`reject "${a}${1}";`, fields(), acts(rejected("${a}${1}"))},
		said{`redirect "${a}@b";`, fields(), acts(to("${a}@b"))},
		said{`if header :matches "a" "x*" {reject "${1}";}`, fields("a", "xy"), acts(rejected("${1}"))},
		said{`if exists "${a}" {discard;}`, fields("${A}", ""), nil},
		said{`if header "${a}" "${b}" {discard;}`, fields("${a}", "${b}"), nil},
		said{`if header "a" "${b}" {discard;}`, fields("a", ""), acts(kept())},
		said{`if envelope "from" "${b}" {discard;}`, api.Message{From: "${b}"}, nil},
	)
}

func TestVariablesInEachString(t *testing.T) {
	const set = `set "k" "x";set "e" "to";`
	says(t, all,
		said{set + `fileinto "${k}";`, fields(), acts(into("x"))},
		said{set + `redirect "${k}@${k}";`, fields(), acts(to("x@x"))},
		said{set + `reject "${k}";`, fields(), acts(rejected("x"))},
		said{set + `set "k" "${k}${k}";fileinto "${k}";`, fields(), acts(into("xx"))},
		said{set + `if header "${k}" "y" {discard;}`, fields("X", "y"), nil},
		said{set + `if header ["q","${k}"] ["q","${k}${k}"] {discard;}`, fields("x", "xx"), nil},
		said{set + `if header :contains "h" "${k}" {discard;}`, fields("h", "axb"), nil},
		said{set + `if header :matches "h" "?${k}*" {discard;}`, fields("h", "axb"), nil},
		said{set + `if envelope "to" "${k}@b" {discard;}`, api.Message{To: "x@b"}, nil},
		said{set + `if string "${k}" "x" {discard;}`, fields(), nil},
		said{set + `if string "x" "${k}" {discard;}`, fields(), nil},
		said{set + `if exists "${k}" {discard;}`, fields("X", ""), nil},
		said{set + `if exists "k" {discard;}`, fields("X", ""), acts(kept())},
		said{`set "w" "*";if string :matches "abc" "a${w}" {fileinto "${1}";}`, fields(), acts(into("bc"))},
		said{`if string "${none}" "" {discard;}`, fields(), nil},
	)
}

func TestRunsKeepNoVariables(t *testing.T) {
	s, err := parse(all + `reject "${a}${1}";set "a" "x";if header :matches "h" "*" {}`)
	if err != nil {
		t.Fatal(err)
	}
	for range 3 {
		if got, err := s.Run(fields("h", "v")); err != nil || len(got) != 1 || got[0] != rejected("") {
			t.Errorf("%v, %v", got, err)
		}
	}
}

// P12: 1,024 bytes.

func TestStringsAreCut(t *testing.T) {
	many := func(s string, n int) string { return strings.Repeat(s, n) }
	for _, c := range []struct {
		n    int
		tail string
		want int
	}{{0, "", 0}, {1, "", 48}, {21, many("x", 15), 1023}, {21, many("x", 16), 1024}, {21, many("x", 17), 1024}, {21, many("x", 40), 1024}, {22, "", 1024}, {40, "zz", 1024}} {
		says(t, all, said{`set "a" "` + many("b", 48) + `";set :length "n" "` + many("${a}", c.n) + c.tail + `";fileinto "${n}";`, fields(), acts(into(strconv.Itoa(c.want)))})
	}
}

func TestTheFirstBytesOfAStringAreLeft(t *testing.T) {
	value := many1024()
	m := fields("h", value+"Z", "cut", value, "long", value+"Z")
	says(t, all,
		said{`if header :matches "h" "*" {} if header "cut" "${0}" {discard;}`, m, nil},
		said{`if header :matches "h" "*" {} if header "long" "${0}" {discard;}`, m, acts(kept())},
		said{`if header :matches "h" "*" {} if string :matches "a${1}b" "a*" {set :length "n" "${1}";fileinto "${n}";}`, m, acts(into("1023"))},
		said{`if header :matches "h" "*Z" {} if string "${1}${0}${1}" "${1}" {discard;}`, m, nil},
		said{`if header :matches "h" "*Z" {} if string :contains "${1}Z" "z" {discard;}`, m, acts(kept())},
		said{`if header :matches "h" "*" {set :length "n" "${0}${a}";fileinto "${n}";}`, fields("h", many1024()+many1024()), acts(into("1024"))},
	)
}

func many1024() string { return strings.Repeat("0123456789abcdef", 64) }

// P12: set.

func TestSetTurnsValues(t *testing.T) {
	says(t, all,
		said{`set "a" "xY1_Z";reject "${a}";`, fields(), acts(rejected("xY1_Z"))},
		said{`set :lower "a" "xY1_Z@[";reject "${a}";`, fields(), acts(rejected("xy1_z@["))},
		said{`set :upper "a" "xY1_z` + "`" + `{";reject "${a}";`, fields(), acts(rejected("XY1_Z`{"))},
		said{`set :length "a" "";reject "${a}";`, fields(), acts(rejected("0"))},
		said{`set :length "a" "é\"";reject "${a}";`, fields(), acts(rejected("3"))},
		said{"set :lower \"a\" \"ÄÉ\u212a\xff\";reject \"${a}\";", fields(), acts(rejected("ÄÉ\u212a\xff"))},
		said{"set :upper \"a\" \"äéß\xff\";reject \"${a}\";", fields(), acts(rejected("äéß\xff"))},
		said{`set "B" "x";set :upper "b" "${b}";set "b" "${B}${b}";reject "${b}";`, fields(), acts(rejected("XX"))},
		said{`set "a" "x";set "a" "";reject "${a}";`, fields(), acts(rejected(""))},
		said{`set "x1" "a";set "X1" "b";set "x" "c";reject "${x1}${x}";`, fields(), acts(rejected("bc"))},
	)
}

func TestValuesAreCut(t *testing.T) {
	for _, n := range []int{0, 1, 47, 48, 49, 60, 200} {
		value := strings.Repeat("aB", n/2) + strings.Repeat("z", n%2)
		cut := value[:min(n, 48)]
		for tag, want := range map[string]string{"": cut, ":lower": strings.ToLower(cut), ":upper": strings.ToUpper(cut), ":length": strconv.Itoa(n)} {
			says(t, all,
				said{`set ` + tag + ` "a" "` + value + `";if string :comparator "i;octet" "${a}" "` + want + `" {discard;}`, fields(), nil},
				said{`set ` + tag + ` "a" "` + value + `";if string :comparator "i;octet" "${a}x" "` + want + `x" {discard;}`, fields(), nil},
			)
		}
	}
}
