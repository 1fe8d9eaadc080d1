package anvil

import (
	"strconv"

	"anvil/lexicon"
	"anvil/scan"
)

// word is what a word of a line or of a body means; run.do tells the kinds apart.
// The other kinds are lexicon.Primitive and the words of one's own.
type word interface {
	String() string // as See tells it within a body
}

// number is a word that is laid on the stack.
type number int

// bold is a word that always means itself, so that no name can hide it.
type bold string

// control is a bold word within a body; goal is where in the body it goes on, if not behind itself.
type control struct {
	bold
	goal int
}

func (n number) String() string { return strconv.Itoa(int(n)) }
func (b bold) String() string   { return string(b) }

// meaning gives what a text means when it is read; nil, if it means nothing.
func (m *Machine) meaning(text string) word {
	if isBold(text) {
		return bold(text)
	}
	if w := m.newest(text); w != nil {
		return w
	}
	if p, ok := lexicon.Find(text); ok {
		return p
	}
	if n, ok := scan.Number(text); ok {
		return number(n)
	}
	return nil
}

func isBold(text string) bool {
	switch text {
	case ":", ";", "variable", "constant", "marker", "forget", "'",
		"recurse", "if", "else", "then", "begin", "until", "again", "while", "repeat",
		"do", "loop", "i", "leave", "exit":
		return true
	}
	return false
}
