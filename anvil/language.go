package anvil

import (
	"strconv"

	"anvil/api"
)

// primitive is a word of the language.
type primitive struct {
	name       string
	group      group
	takes      int // from the stack
	takesAside int // from what is laid aside
}

// group says which function knows what a primitive does.
type group int

const (
	reckons group = iota
	moves
	tells
)

// language has the words of the language by their names.
var language = map[string]primitive{}

func init() {
	for _, name := range []string{"+", "-", "*", "/", "mod", "=", "<", ">", "and", "or", "xor"} {
		language[name] = primitive{name: name, group: reckons, takes: 2}
	}
	for _, p := range []primitive{
		{name: "not", group: reckons, takes: 1},
		{name: "dup", group: moves, takes: 1},
		{name: "drop", group: moves, takes: 1},
		{name: "swap", group: moves, takes: 2},
		{name: "over", group: moves, takes: 2},
		{name: "rot", group: moves, takes: 3},
		{name: ">r", group: moves, takes: 1},
		{name: "r>", group: moves, takesAside: 1},
		{name: "r@", group: moves, takesAside: 1},
		{name: "depth", group: moves},
		{name: ".", group: tells, takes: 1},
		{name: "emit", group: tells, takes: 1},
		{name: "cr", group: tells},
	} {
		language[p.name] = p
	}
}

// effect is what a word is about to do in place of the numbers that it takes.
// It is known ahead of doing it, so that a word that fails has done nothing.
type effect struct {
	lays      []int
	laysAside []int
	tells     string
}

// plan works out the effect of p on the numbers that it takes; depth counts these too.
func (p primitive) plan(taken, takenAside []int, depth int) (effect, api.Errno) {
	switch p.group {
	case reckons:
		c, err := reckon(p.name, taken)
		return effect{lays: []int{c}}, err
	case moves:
		return move(p.name, taken, takenAside, depth), api.OK
	default:
		text, err := tell(p.name, taken)
		return effect{tells: text}, err
	}
}

func reckon(name string, taken []int) (int, api.Errno) {
	a, b := taken[0], taken[len(taken)-1]
	switch name {
	case "+":
		return a + b, api.OK
	case "-":
		return a - b, api.OK
	case "*":
		return a * b, api.OK
	case "/", "mod":
		return divide(name, a, b)
	case "=":
		return truth(a == b), api.OK
	case "<":
		return truth(a < b), api.OK
	case ">":
		return truth(a > b), api.OK
	case "and":
		return a & b, api.OK
	case "or":
		return a | b, api.OK
	case "xor":
		return a ^ b, api.OK
	default: // not
		return truth(a == 0), api.OK
	}
}

func divide(name string, a, b int) (int, api.Errno) {
	if b == 0 {
		return 0, api.ErrZero
	}
	if name == "mod" {
		return a % b, api.OK
	}
	return a / b, api.OK
}

func truth(holds bool) int {
	if holds {
		return -1
	}
	return 0
}

func move(name string, taken, takenAside []int, depth int) effect {
	switch name {
	case "dup":
		return effect{lays: []int{taken[0], taken[0]}}
	case "swap":
		return effect{lays: []int{taken[1], taken[0]}}
	case "over":
		return effect{lays: []int{taken[0], taken[1], taken[0]}}
	case "rot":
		return effect{lays: []int{taken[1], taken[2], taken[0]}}
	case ">r":
		return effect{laysAside: []int{taken[0]}}
	case "r>":
		return effect{lays: []int{takenAside[0]}}
	case "r@":
		return effect{lays: []int{takenAside[0]}, laysAside: []int{takenAside[0]}}
	case "depth":
		return effect{lays: []int{depth}}
	default: // drop
		return effect{}
	}
}

func tell(name string, taken []int) (string, api.Errno) {
	switch name {
	case ".":
		return strconv.Itoa(taken[0]) + " ", api.OK
	case "emit":
		if taken[0] < 32 || taken[0] > 126 {
			return "", api.ErrSign
		}
		return string(rune(taken[0])), api.OK
	default: // cr
		return "\n", api.OK
	}
}
