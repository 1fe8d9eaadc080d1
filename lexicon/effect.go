package lexicon

import (
	"strconv"

	"anvil/api"
)

// Effect is what a word is about to do in place of the numbers that it takes.
// It is known ahead of doing it, so that a word that fails has done nothing.
type Effect struct {
	Lays      []int
	LaysAside []int
	Tells     string
}

// Plan works out the effect of p on the numbers that it takes; depth counts these too.
// Of a word that reaches there is nothing to plan.
func (p Primitive) Plan(taken, takenAside []int, depth int) (Effect, api.Errno) {
	switch p.group {
	case reckons:
		c, err := reckon(p.Name, taken)
		if err != api.OK {
			return Effect{}, err
		}
		return Effect{Lays: []int{c}}, api.OK
	case moves:
		return move(p.Name, taken, takenAside, depth), api.OK
	case tells:
		text, err := tell(p.Name, taken)
		return Effect{Tells: text}, err
	default:
		return Effect{}, api.OK
	}
}

func reckon(name string, taken []int) (int, api.Errno) {
	a, b := taken[0], taken[len(taken)-1]
	switch name {
	case "+":
		return a + b, api.OK
	case "-":
		return a - b, api.OK
	case "*":
		return a * b, api.OK
	case "/", "mod":
		return divide(name, a, b)
	case "=":
		return truth(a == b), api.OK
	case "<":
		return truth(a < b), api.OK
	case ">":
		return truth(a > b), api.OK
	case "and":
		return a & b, api.OK
	case "or":
		return a | b, api.OK
	case "xor":
		return a ^ b, api.OK
	default: // not
		return truth(a == 0), api.OK
	}
}

func divide(name string, a, b int) (int, api.Errno) {
	if b == 0 {
		return 0, api.ErrZero
	}
	if name == "mod" {
		return a % b, api.OK
	}
	return a / b, api.OK
}

func truth(holds bool) int {
	if holds {
		return -1
	}
	return 0
}

func move(name string, taken, takenAside []int, depth int) Effect {
	switch name {
	case "dup":
		return Effect{Lays: []int{taken[0], taken[0]}}
	case "swap":
		return Effect{Lays: []int{taken[1], taken[0]}}
	case "over":
		return Effect{Lays: []int{taken[0], taken[1], taken[0]}}
	case "rot":
		return Effect{Lays: []int{taken[1], taken[2], taken[0]}}
	case ">r":
		return Effect{LaysAside: []int{taken[0]}}
	case "r>":
		return Effect{Lays: []int{takenAside[0]}}
	case "r@":
		return Effect{Lays: []int{takenAside[0]}, LaysAside: []int{takenAside[0]}}
	case "depth":
		return Effect{Lays: []int{depth}}
	default: // drop
		return Effect{}
	}
}

func tell(name string, taken []int) (string, api.Errno) {
	switch name {
	case ".":
		return strconv.Itoa(taken[0]) + " ", api.OK
	case "emit":
		if taken[0] < 32 || taken[0] > 126 {
			return "", api.ErrSign
		}
		return string(rune(taken[0])), api.OK
	default: // cr
		return "\n", api.OK
	}
}
