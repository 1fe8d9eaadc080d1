// Package lexicon has the words of the language: what each is called, what it takes, and what it does with that.
package lexicon

// Primitive is a word of the language.
type Primitive struct {
	Name       string
	Takes      int // from the stack
	TakesAside int // from what is laid aside
	group      group
}

// group says which function knows what a primitive does.
type group int

const (
	reckons group = iota
	moves
	tells
	reaches
)

// String gives the word as it is written.
func (p Primitive) String() string { return p.Name }

// Reaches says whether p comes to a word of one's own, by a token that it takes.
// What it does then only a machine knows, whose words these are.
func (p Primitive) Reaches() bool { return p.group == reaches }

// language has the words of the language by their names; it stands beside Find, which does not read it.
var language = map[string]Primitive{}

func init() {
	for _, name := range []string{
		"+", "-", "*", "/", "mod", "=", "<", ">", "and", "or", "xor", "not",
		"dup", "drop", "swap", "over", "rot", ">r", "r>", "r@", "depth",
		".", "emit", "cr", "@", "!", "execute",
	} {
		language[name], _ = Find(name)
	}
}

// Listed gives the word of the language of that name as the list of them has it.
func Listed(name string) (Primitive, bool) {
	p, ok := language[name]
	return p, ok
}

// Find works out the word of the language of that name.
func Find(name string) (Primitive, bool) {
	switch name {
	case "+", "-", "*", "/", "mod", "=", "<", ">", "and", "or", "xor":
		return Primitive{Name: name, group: reckons, Takes: 2}, true
	case "not":
		return Primitive{Name: name, group: reckons, Takes: 1}, true
	case "dup", "drop", ">r":
		return Primitive{Name: name, group: moves, Takes: 1}, true
	case "swap", "over":
		return Primitive{Name: name, group: moves, Takes: 2}, true
	case "rot":
		return Primitive{Name: name, group: moves, Takes: 3}, true
	case "r>", "r@":
		return Primitive{Name: name, group: moves, TakesAside: 1}, true
	case "depth":
		return Primitive{Name: name, group: moves}, true
	case ".", "emit":
		return Primitive{Name: name, group: tells, Takes: 1}, true
	case "cr":
		return Primitive{Name: name, group: tells}, true
	case "@", "execute":
		return Primitive{Name: name, group: reaches, Takes: 1}, true
	case "!":
		return Primitive{Name: name, group: reaches, Takes: 2}, true
	}
	return Primitive{}, false
}
