package lexicon

import (
	"slices"
	"testing"

	"anvil/api"
)

// needs: how many numbers the document says each word takes, from the stack and from what is aside.
var needs = map[string][2]int{
	"+": {2, 0}, "-": {2, 0}, "*": {2, 0}, "/": {2, 0}, "mod": {2, 0},
	"=": {2, 0}, "<": {2, 0}, ">": {2, 0}, "and": {2, 0}, "or": {2, 0}, "xor": {2, 0}, "not": {1, 0},
	"dup": {1, 0}, "drop": {1, 0}, "swap": {2, 0}, "over": {2, 0}, "rot": {3, 0},
	">r": {1, 0}, "r>": {0, 1}, "r@": {0, 1}, "depth": {0, 0},
	".": {1, 0}, "emit": {1, 0}, "cr": {0, 0}, "@": {1, 0}, "!": {2, 0}, "execute": {1, 0},
}

// none: texts that are no words of the language, some of them nearly.
var none = []string{
	"", " ", "what", "DUP", "dup ", " dup", "du", "dupp", "+ ", "++", "r", ">>", ">r>", "@@", "!@", "Execute", "execut", "0", "7", "-1", "é", "\xff", "\x00",
	":", ";", "variable", "constant", "marker", "forget", "'", "recurse", "if", "else", "then", "begin", "until",
	"again", "while", "repeat", "do", "loop", "i", "leave", "exit",
}

func checkSame(t *testing.T, name string) {
	t.Helper()
	listed, isListed := Listed(name)
	found, isFound := Find(name)
	if listed != found || isListed != isFound {
		t.Errorf("%q: the map says %+v, %t, the function %+v, %t", name, listed, isListed, found, isFound)
	}
	if _, ok := needs[name]; ok != isFound {
		t.Errorf("%q is a word of the language: %t, want %t", name, isFound, ok)
	}
}

func TestMapAndFunctionSayTheSameOfEveryWord(t *testing.T) {
	for name, want := range needs {
		checkSame(t, name)
		p, _ := Listed(name)
		if p.Name != name || p.String() != name || p.Takes != want[0] || p.TakesAside != want[1] {
			t.Errorf("Listed(%q) = %+v, want %v", name, p, want)
		}
	}
	for name := range language {
		checkSame(t, name)
	}
	if len(language) != len(needs) {
		t.Errorf("the map has %d words, want %d", len(language), len(needs))
	}
}

func TestMapAndFunctionSayTheSameOfNoWord(t *testing.T) {
	for _, name := range none {
		checkSame(t, name)
		if p, ok := Listed(name); ok || p != (Primitive{}) {
			t.Errorf("Listed(%q) = %+v, %t, want none", name, p, ok)
		}
		if p, ok := Find(name); ok || p != (Primitive{}) {
			t.Errorf("Find(%q) = %+v, %t, want none", name, p, ok)
		}
	}
}

func TestMapAndFunctionSayTheSameOfAllShortTexts(t *testing.T) {
	for a := range 256 {
		checkSame(t, string([]byte{byte(a)}))
		for b := range 256 {
			checkSame(t, string([]byte{byte(a), byte(b)}))
		}
		for name := range needs {
			checkSame(t, name+string([]byte{byte(a)}))
			checkSame(t, string([]byte{byte(a)})+name[1:])
		}
	}
	for n := range 26 * 26 * 26 {
		checkSame(t, string([]byte{'a' + byte(n/26/26), 'a' + byte(n/26%26), 'a' + byte(n%26)}))
	}
}

// TestMapAndFunctionDoTheSame lets both plan what each word does.
func TestMapAndFunctionDoTheSame(t *testing.T) {
	for name, n := range needs {
		listed, _ := Listed(name)
		found, _ := Find(name)
		taken, aside := []int{33, 44, 55}[:n[0]], []int{66}[:n[1]]
		a, errA := listed.Plan(taken, aside, 5)
		b, errB := found.Plan(taken, aside, 5)
		if errA != api.OK || errB != api.OK || a.Tells != b.Tells ||
			!slices.Equal(a.Lays, b.Lays) || !slices.Equal(a.LaysAside, b.LaysAside) {
			t.Errorf("%q: the map plans %+v, %d, the function %+v, %d", name, a, errA, b, errB)
		}
	}
}

func TestWordsThatReach(t *testing.T) {
	reach := []string{"@", "!", "execute"}
	for name, n := range needs {
		p, _ := Find(name)
		if p.Reaches() != slices.Contains(reach, name) {
			t.Errorf("%q reaches: %t", name, p.Reaches())
		}
		e, err := p.Plan([]int{33, 44, 55}[:n[0]], []int{66}[:n[1]], 5)
		if p.Reaches() && (err != api.OK || len(e.Lays)+len(e.LaysAside)+len(e.Tells) != 0) {
			t.Errorf("%q plans %+v, %d", name, e, err)
		}
	}
}

func TestNothingIsPlannedBesideAnError(t *testing.T) {
	for name, taken := range map[string][]int{"/": {1, 0}, "mod": {1, 0}, "emit": {31}} {
		p, _ := Find(name)
		e, err := p.Plan(taken, nil, len(taken))
		if err == api.OK || len(e.Lays)+len(e.LaysAside)+len(e.Tells) != 0 {
			t.Errorf("%q plans %+v, %d", name, e, err)
		}
	}
}
