package anvil

import (
	"strconv"
	"strings"
)

const firstToken = 1000

// ownWord is a word of one's own.
type ownWord interface {
	word
	Name() string
	Token() int
	see() string
}

// common is what words of one's own share.
type common struct {
	name  string
	token int
}

func (c common) Name() string { return c.name }
func (c common) Token() int   { return c.token }

// String tells the token, since a name alone does not say which of its words is meant.
func (c common) String() string { return "#" + strconv.Itoa(c.token) }

// definition is a word that is made of words.
type definition struct {
	common
	body []word
}

func (d *definition) see() string {
	var text strings.Builder
	text.WriteString(":")
	for _, w := range d.body {
		text.WriteString(" " + w.String())
	}
	return text.String()
}

// variable is a place for a number.
type variable struct {
	common
	number int
}

func (v *variable) see() string { return "variable " + strconv.Itoa(v.number) }

// constant is a number with a name.
type constant struct {
	common
	number int
}

func (c constant) see() string { return "constant " + strconv.Itoa(c.number) }

// marker is a word that makes itself forgotten.
type marker struct{ common }

func (w marker) see() string { return "marker" }

// newest gives the newest word of one's own of that name; nil, if there is none.
func (m *Machine) newest(name string) ownWord {
	for at := len(m.own) - 1; at >= 0; at-- {
		if m.own[at].Name() == name {
			return m.own[at]
		}
	}
	return nil
}

// byToken gives the word of one's own that has that token; nil, if there is none.
func (m *Machine) byToken(token int) ownWord {
	for _, w := range m.own {
		if w.Token() == token {
			return w
		}
	}
	return nil
}

// begin gives a word of one's own its name and its token, which stays given even if the word is never ended.
func (m *Machine) begin(name string) common {
	token := firstToken + m.begun
	m.begun++
	return common{name: strings.Clone(name), token: token} // the line is not kept
}

// forget forgets a word of one's own with all that were made behind it, which are those of higher tokens.
// A definition that goes on though it is forgotten may ask it of a marker that is gone too: nothing is left to forget then.
func (m *Machine) forget(first ownWord) {
	at := len(m.own)
	for at > 0 && m.own[at-1].Token() >= first.Token() {
		at--
	}
	clear(m.own[at:]) // so that the room behind keeps nothing of them
	m.own = m.own[:at]
}
