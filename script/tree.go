// Package script: scripts as texts and as trees: a text is read into a tree, a tree is written as a text.
package script

// Tree is what a text says.
type Tree struct {
	Requires []string // each once, in the order in which they were required first
	Commands []Command
}

// Head is what commands and tests share: the word that they begin with, in small letters, and its place.
type Head struct {
	Word string
	At   int
}

// Name is the word that a command or test begins with.
func (h Head) Name() string { return h.Word }

// Command is an Act, Discard, Stop, Set or If.
type Command interface {
	Name() string
	command()
}

// Act is keep, fileinto, redirect or reject: Kind and Arg are those of the action.
type Act struct {
	Head
	Kind int
	Arg  string
}

// Discard is the command discard.
type Discard struct{ Head }

// Stop is the command stop.
type Stop struct{ Head }

// Set gives a variable, its name in small letters, a value that is turned as Tag says.
type Set struct {
	Head
	Tag      int
	Variable string
	Value    string
}

// If has one arm for the word if, and one for each elsif. (An else may have an empty block.)
type If struct {
	Head
	Arms    []Arm
	HasElse bool
	Else    []Command
}

// Arm is a block, and the test that must hold for it.
type Arm struct {
	Test  Test
	Block []Command
}

func (Act) command()     {}
func (Discard) command() {}
func (Stop) command()    {}
func (Set) command()     {}
func (If) command()      {}

// Test is a Truth, Not, AllOf, AnyOf, Header, Envelope, String, Exists or Size.
type Test interface {
	Name() string
	test()
}

// Truth is true or false.
type Truth struct {
	Head
	Holds bool
}

// Not holds if its test does not.
type Not struct {
	Head
	Test Test
}

// Group is what allof and anyof share.
type Group struct {
	Head
	Tests []Test
}

// AllOf holds if all of its tests do.
type AllOf struct{ Group }

// AnyOf holds if one of its tests does.
type AnyOf struct{ Group }

// Match is what header, envelope and string share: where the values come from, and the keys that they must match, as Tag says.
type Match struct {
	Head
	Tag   int
	Octet bool
	From  []string
	Keys  []string
}

// Header asks the fields of these names.
type Header struct{ Match }

// Envelope asks the parts of the envelope.
type Envelope struct{ Match }

// String asks the strings themselves.
type String struct{ Match }

// Exists holds if there is a field of each name.
type Exists struct {
	Head
	Names []string
}

// Size asks how many bytes the message has, as Tag says.
type Size struct {
	Head
	Tag    int
	Number int
}

func (Truth) test()  {}
func (Not) test()    {}
func (Group) test()  {}
func (Match) test()  {}
func (Exists) test() {}
func (Size) test()   {}

// The tags by which things are read and written stand in the order of api's numbers, from 1 on.

func turnTags() []string { return []string{":lower", ":upper", ":length"} }

func matchTags() []string { return []string{":is", ":contains", ":matches"} }

func sizeTags() []string { return []string{":over", ":under"} }

// The names of the comparators, and the word ahead of them.
const (
	comparatorTag = ":comparator"
	octet         = "i;octet"
	casemap       = "i;ascii-casemap"
)
