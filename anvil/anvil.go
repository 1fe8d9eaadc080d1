// Package anvil: a small language of words that are made of words: see DOC.md.
package anvil

import (
	"slices"

	"anvil/api"
	"anvil/scan"
)

// Machine has words, and numbers on stacks.
type Machine struct {
	stack []int
	aside []int
	own   []ownWord // the newest at the end
	begun int       // how many words of one's own were begun, so that no token is given twice
}

// New gives a machine (P3).
func New() *Machine { return &Machine{} }

// Do does a line (P4).
func (m *Machine) Do(line string) api.Answer {
	if len(line) > api.MaxLine {
		return api.Answer{Err: api.ErrLong}
	}
	r := run{machine: m, words: scan.Words(line)}
	return r.all()
}

// Stack tells the numbers on the stack (P5).
func (m *Machine) Stack() []int { return slices.Clone(m.stack) }

// Aside tells the numbers that are laid aside (P5).
func (m *Machine) Aside() []int { return slices.Clone(m.aside) }

// Words tells the names of all words of one's own (P5).
func (m *Machine) Words() []string {
	names := make([]string, len(m.own))
	for at, w := range m.own {
		names[at] = w.Name()
	}
	return names
}

// See tells a word of one's own as text (P6).
func (m *Machine) See(name string) (string, api.Errno) {
	w := m.newest(name)
	if w == nil {
		return "", api.ErrWord
	}
	return w.see(), api.OK
}
