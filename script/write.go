package script

import (
	"strconv"
	"strings"

	"mailsieve/api"
)

// Text writes the script.
func (t Tree) Text() string {
	text := ""
	if len(t.Requires) > 0 {
		text = "require " + quotes(t.Requires) + ";\n"
	}
	return text + lines(t.Commands, "")
}

// lines writes commands, each on lines of its own, so far in.
func lines(list []Command, in string) string {
	text := ""
	for _, c := range list {
		text += in + commandText(c, in) + "\n"
	}
	return text
}

func commandText(c Command, in string) string {
	switch c := c.(type) {
	case If:
		return choiceText(c, in)
	case Set:
		return phrase(c.Word, tagText(c.Tag, turnTags()), quoted(c.Variable), quoted(c.Value)) + ";"
	case Act:
		if c.Kind != api.Keep {
			return phrase(c.Word, quoted(c.Arg)) + ";"
		}
	}
	return c.Name() + ";"
}

func choiceText(c If, in string) string {
	text, word := "", c.Word
	for _, a := range c.Arms {
		text += phrase(word, testText(a.Test), "{\n") + lines(a.Block, in+"  ") + in
		word = "} elsif"
	}
	if c.HasElse {
		text += "} else {\n" + lines(c.Else, in+"  ") + in
	}
	return text + "}"
}

func testText(t Test) string {
	switch t := t.(type) {
	case Not:
		return phrase(t.Word, testText(t.Test))
	case AllOf:
		return groupText(t.Group)
	case AnyOf:
		return groupText(t.Group)
	case Header:
		return matchText(t.Match)
	case Envelope:
		return matchText(t.Match)
	case String:
		return matchText(t.Match)
	case Exists:
		return phrase(t.Word, quotes(t.Names))
	case Size:
		return phrase(t.Word, tagText(t.Tag, sizeTags()), strconv.Itoa(t.Number))
	}
	return t.Name()
}

func groupText(g Group) string {
	var list []string
	for _, t := range g.Tests {
		list = append(list, testText(t))
	}
	return g.Word + " (" + strings.Join(list, ", ") + ")"
}

func matchText(m Match) string {
	comparator, tag := "", ""
	if m.Octet {
		comparator = phrase(comparatorTag, quoted(octet))
	}
	if m.Tag != api.Is {
		tag = tagText(m.Tag, matchTags())
	}
	return phrase(m.Word, comparator, tag, quotes(m.From), quotes(m.Keys))
}

// tagText is the tag of a number, from 1 on; nothing is said for 0.
func tagText(tag int, tags []string) string {
	if tag == 0 {
		return ""
	}
	return tags[tag-1]
}

// phrase is parts with a blank between them; an empty one is left out.
func phrase(parts ...string) string {
	text := ""
	for _, p := range parts {
		if text != "" && p != "" {
			text += " "
		}
		text += p
	}
	return text
}

// quotes writes one string as it is, others in brackets.
func quotes(list []string) string {
	var all []string
	for _, s := range list {
		all = append(all, quoted(s))
	}
	if len(all) == 1 {
		return all[0]
	}
	return "[" + strings.Join(all, ", ") + "]"
}

func quoted(s string) string {
	text := []byte{'"'}
	for i := range len(s) {
		if s[i] == '"' || s[i] == '\\' {
			text = append(text, '\\')
		}
		text = append(text, s[i])
	}
	return string(append(text, '"'))
}
