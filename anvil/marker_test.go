package anvil_test

import (
	"strconv"
	"strings"
	"testing"

	"anvil/anvil"
	"anvil/api"
)

func TestMarkers(t *testing.T) {
	for _, c := range []struct{ line, out, words string }{
		{"marker m", "", "m"},
		{"marker m m", "", ""},
		{"marker m marker n", "", "m n"},
		{"marker m marker n n", "", "m"},
		{"marker m marker n m", "", ""},
		{"marker m marker n n m", "", ""},
		{": x 7 . ; marker m : y x ; m x", "7 ", "x"},
		{"marker m : a ; variable v 1 constant k marker n : b ; m", "", ""},
		{"marker m : a 1 ; m marker m : b 2 . ; b m", "2 ", ""},
		{"marker m marker m : a ; m", "", "m"},
		{"marker m marker m : a ; m m", "", ""},
		{": m 5 . ; marker m : m 6 . ; m", "6 ", "m m m"},
		{": m 5 . ; marker m m m", "5 ", "m"},
		{"marker dup dup 3 dup . .", "3 3 ", ""},
		{": dup 8 ; marker a : dup 9 ; dup . a dup .", "9 8 ", "dup"},
		{"marker m ' m execute", "", ""},
		{"marker m : a ; ' m ' a . execute", "1001 ", ""},
		{": x ; marker m variable v 1000 1001 execute .", "1000 ", "x"},
		{"marker\n\tm\r: a ; m\n", "", ""},
		{"marker abcdefghijkl marker ~ ~ abcdefghijkl", "", ""},
		{"variable v marker m 5 v ! m v @ .", "5 ", "v"},
		{"variable v marker m variable v 5 v ! m v @ .", "0 ", "v"},
	} {
		m := anvil.New()
		check(t, m, c.line, api.Answer{Out: c.out})
		checkStacks(t, m, nil, nil)
		checkWords(t, m, strings.Fields(c.words)...)
	}
}

// TestMarkersInDefinitions: a definition goes on to its end, though it be forgotten meanwhile, and its words mean what they did.
func TestMarkersInDefinitions(t *testing.T) {
	for _, c := range []struct{ line, out, words string }{
		{"marker m : f m ; f", "", ""},
		{"marker m : f 1 . m 2 . ; f", "1 2 ", ""},
		{": x 7 . ; marker m : f m x ; f x", "7 7 ", "x"},
		{": x 7 . ; marker m : f m m x m ; f x", "7 7 ", "x"},
		{"marker m : g 8 . ; : f m g g ; f", "8 8 ", ""},
		{"marker m : g m 8 . ; : f g 9 . g ; f", "8 9 8 ", ""},
		{"marker m 5 constant k : f m k . ; f", "5 ", ""},
		{"marker m variable v : f m v . ; f", "1001 ", ""},
		{"variable v marker m : f m 5 v ! v @ . ; f v @ .", "5 5 ", "v"},
		{"marker m : f m ' m . ; f", "1000 ", ""},
		{"marker m : f m dup if 1 - dup . recurse then ; 3 f .", "2 1 0 0 ", ""},
		{"marker m : f dup if 1 - recurse m dup . then ; 3 f .", "0 0 0 0 ", ""},
		{"marker m : f 3 0 do i . m loop 9 . ; f", "0 1 2 9 ", ""},
		{"marker m : f 3 0 do m i . leave loop 9 . ; f", "0 9 ", ""},
		{"marker m : f begin m 1 - dup . dup not until drop ; 3 f", "2 1 0 ", ""},
		{"marker m : f begin dup while m 1 - repeat . ; 3 f", "0 ", ""},
		{"marker m : f m 1 if 2 . exit then 3 . ; f", "2 ", ""},
		{"marker m : f if m 1 else 2 then . ; 0 f 1 f", "2 1 ", ""},
		{"marker m : f ' m execute 2 . ; f", "2 ", ""},
		{": do-it execute 5 . ; marker m ' m do-it", "5 ", "do-it"},
		{": do-it execute 5 . ; marker m : f m 6 . ; ' f do-it", "6 5 ", "do-it"},
		{"marker m : a ; marker n : f n m n ; f", "", ""},
		{"marker m marker n : f n 1 . ; : g m f ; g", "1 ", ""},
		{"marker m : a 1 . ; marker n : f n a ; f a", "1 1 ", "m a"},
		{": m 4 . ; marker m : f m m ; f m", "4 ", "m"},
		{"marker m : m m 1 . ; m", "1 ", ""},
		{"marker m : f m ; 7 8 >r f r> . .", "8 7 ", ""},
		{"marker m : dup m ; : f dup dup 3 . ; f 4 dup . .", "3 4 4 ", ""},
		{"marker m : f m 2 . ; f : f 3 . ; f", "2 3 ", "f"},
		{"marker m : f m 2 . ; f marker m : f 3 . m ; f", "2 3 ", ""},
	} {
		m := anvil.New()
		check(t, m, c.line, api.Answer{Out: c.out})
		checkStacks(t, m, nil, nil)
		checkWords(t, m, strings.Fields(c.words)...)
	}
}

func TestMarkersFromLineToLine(t *testing.T) {
	m := with(t, ": x 7 . ; marker m variable v : f x m v ; 5 6 >r")
	checkSee(t, m, "m", "marker")
	checkSee(t, m, "f", ": #1000 #1001 #1002")
	check(t, m, "f", api.Answer{Out: "7 "})
	checkStacks(t, m, []int{5, 1002}, []int{6})
	checkWords(t, m, "x")
	for _, name := range []string{"m", "v", "f", "marker", ""} {
		checkUnseen(t, m, name)
	}
	for _, name := range []string{"m", "v", "f"} {
		check(t, m, name, api.Answer{Err: api.ErrWord})
		check(t, m, "forget "+name, api.Answer{Err: api.ErrWord})
	}
	check(t, m, ": m ' x ; variable y y .", api.Answer{Out: "1005 "})
	checkSee(t, m, "m", ": 1000")
}

func TestFullStacksWithMarkers(t *testing.T) {
	aside := strings.Repeat("1 >r ", api.MaxStack)
	for _, c := range []struct{ words, line string }{
		{"marker m", "m"}, {"marker m : f m ;", "f"}, {"marker m", "marker n"}, {"marker m", "forget m"}, {"marker m : f m m ; : g f m ;", "g"},
	} {
		m := with(t, c.words)
		check(t, m, aside+ones(api.MaxStack), api.Answer{})
		check(t, m, c.line, api.Answer{})
		if stack, aside := m.Stack(), m.Aside(); len(stack) != api.MaxStack || len(aside) != api.MaxStack {
			t.Errorf("P5: %v, %v behind %q", stack, aside, c.line)
		}
	}
	m := with(t, "marker m")
	check(t, m, ones(api.MaxStack-1)+"' m execute", api.Answer{})
	check(t, m, "1 1 1", api.Answer{Err: api.ErrOver, Word: 1})
}

// TestNamesOfMarkers: a wrong name comes ahead of too many words, and takes no token.
func TestNamesOfMarkers(t *testing.T) {
	wrong := strings.Fields(": ; variable constant marker forget ' recurse if else then begin until again while repeat do loop i leave exit")
	wrong = append(wrong, "", "7", "-7", "0", "-0", "007", "999999999999999999", "abcdefghijklm", "1000000000000000000", "é", "a\x7f", "\x1f", "a\x80")
	filled := full(t)
	names := filled.Words()
	for _, name := range wrong {
		m := with(t, "marker m 8 >r 9")
		check(t, m, "marker "+name, api.Answer{Err: api.ErrName})
		checkStacks(t, m, nil, nil)
		checkWords(t, m, "m")
		check(t, m, "3 . marker "+name, api.Answer{Out: "3 ", Err: api.ErrName, Word: 2})
		check(t, m, "variable w w .", api.Answer{Out: "1001 "})
		check(t, filled, "1 marker "+name, api.Answer{Err: api.ErrName, Word: 1})
	}
	for _, name := range []string{"x", "a0", "dup", "abcdefghijkl"} {
		check(t, filled, "1 marker "+name, api.Answer{Err: api.ErrFull, Word: 1})
		checkStacks(t, filled, nil, nil)
	}
	checkWords(t, filled, names...)
	for _, name := range []string{"!", "@", "execute", "~", "-", "--1", "1a", "If", "dup", "Marker", "abcdefghijkl", "m"} {
		m := with(t, "marker m")
		check(t, m, "marker "+name, api.Answer{})
		checkWords(t, m, "m", name)
		checkSee(t, m, name, "marker")
		check(t, m, name, api.Answer{})
		checkWords(t, m, "m")
	}
}

func TestMarkersMakeRoom(t *testing.T) {
	m := full(t)
	check(t, m, ": x ;", api.Answer{Err: api.ErrFull})
	check(t, m, "a36 variable x x .", api.Answer{Out: "1040 "})
	check(t, m, "marker y variable z : f z ; variable v", api.Answer{Err: api.ErrFull, Word: 8})
	check(t, m, "y variable v v .", api.Answer{Out: "1044 "})
	check(t, m, "a0", api.Answer{})
	checkWords(t, m)
	for turn := range 3 {
		check(t, m, "marker m", api.Answer{})
		for range api.MaxWords - 1 {
			check(t, m, ": f m ;", api.Answer{})
		}
		for _, line := range []string{"marker x", "variable x", ": x ;", "constant x"} {
			check(t, m, line, api.Answer{Err: api.ErrFull})
		}
		check(t, m, "' f . f", api.Answer{Out: strconv.Itoa(1045+40*turn+39) + " "})
		checkWords(t, m)
	}
}

// TestFailingBehindAMarker: what definitions did to variables and made to be forgotten stays, though the word of the line fails.
func TestFailingBehindAMarker(t *testing.T) {
	const words = "variable v : x 7 . ; marker m variable w : f m 0 / ; : g 5 v ! f 6 v ! ; : h m w @ ; : j m 9 w ! ; : k 0 / m ;"
	for _, c := range []struct {
		line string
		want api.Answer
		v    string
		kept bool
	}{
		{"1 f x", api.Answer{Err: api.ErrZero, Word: 1}, "0", false},
		{"1 . f", api.Answer{Out: "1 ", Err: api.ErrUnder, Word: 2}, "0", false},
		{"1 g", api.Answer{Err: api.ErrZero, Word: 1}, "5", false},
		{"1 ' f execute", api.Answer{Err: api.ErrZero, Word: 3}, "0", false},
		{"1 ' g execute", api.Answer{Err: api.ErrZero, Word: 3}, "5", false},
		{"h", api.Answer{Err: api.ErrPlace}, "0", false},
		{"j", api.Answer{Err: api.ErrPlace}, "0", false},
		{"1 k", api.Answer{Err: api.ErrZero, Word: 1}, "0", true},
		{"k", api.Answer{Err: api.ErrUnder}, "0", true},
		{": a m what ;", api.Answer{Err: api.ErrWord, Word: 3}, "0", true},
		{": a m ; a a", api.Answer{Err: api.ErrWord, Word: 5}, "0", false},
		{": a m recurse ; a", api.Answer{Err: api.ErrDeep, Word: 5}, "0", false},
		{": a m begin again ; a", api.Answer{Err: api.ErrSteps, Word: 6}, "0", false},
		{": a begin m again ; a", api.Answer{Err: api.ErrSteps, Word: 6}, "0", false},
		{": a begin m x again ; a", api.Answer{Out: strings.Repeat("7 ", 150), Err: api.ErrOut, Word: 7}, "0", false},
		{": a begin m 1 again ; a", api.Answer{Err: api.ErrOver, Word: 7}, "0", false},
		{": a ' m execute ' m execute ; a", api.Answer{Err: api.ErrGone, Word: 9}, "0", false},
		{": a m ' x execute ' a execute ; a", api.Answer{Err: api.ErrWord, Word: 6}, "0", true},
		{": a m 1 v ! x ' f execute ; a", api.Answer{Out: "7 ", Err: api.ErrGone, Word: 11}, "1", false},
		{"m f", api.Answer{Err: api.ErrWord, Word: 1}, "0", false},
	} {
		m := with(t, words)
		check(t, m, "8 >r", api.Answer{})
		check(t, m, c.line, c.want)
		checkStacks(t, m, nil, nil)
		checkSee(t, m, "v", "variable "+c.v)
		if c.kept {
			checkWords(t, m, "v", "x", "m", "w", "f", "g", "h", "j", "k")
		} else {
			checkWords(t, m, "v", "x")
			check(t, m, "f", api.Answer{Err: api.ErrWord})
		}
		check(t, m, "x v @ .", api.Answer{Out: "7 " + c.v + " "})
	}
}

// TestStepsBehindWhichNothingIsForgotten: ErrSteps comes ahead of all else, so that the word it is told at has done nothing.
func TestStepsBehindWhichNothingIsForgotten(t *testing.T) {
	const words = "marker m : spend 0 do loop ; : f m ;"
	for _, c := range []struct {
		line string
		want api.Answer
		left string
	}{
		{"995 spend m", api.Answer{}, ""}, {"996 spend m", api.Answer{Err: api.ErrSteps, Word: 2}, "m spend f"},
		{"994 spend f", api.Answer{}, ""}, {"995 spend f", api.Answer{Err: api.ErrSteps, Word: 2}, "m spend f"},
		{"995 spend forget spend", api.Answer{}, "m"}, {"996 spend forget spend", api.Answer{Err: api.ErrSteps, Word: 2}, "m spend f"},
		{"996 spend forget", api.Answer{Err: api.ErrSteps, Word: 2}, "m spend f"}, {"996 spend marker", api.Answer{Err: api.ErrSteps, Word: 2}, "m spend f"},
		{"995 spend marker n", api.Answer{}, "m spend f n"}, {"996 spend marker n", api.Answer{Err: api.ErrSteps, Word: 2}, "m spend f"},
		{"994 spend ' m execute", api.Answer{}, ""}, {"995 spend ' m execute", api.Answer{Err: api.ErrSteps, Word: 4}, "m spend f"},
		{"993 spend ' f execute", api.Answer{}, ""}, {"994 spend ' f execute", api.Answer{Err: api.ErrSteps, Word: 4}, "m spend f"},
	} {
		m := with(t, words)
		check(t, m, c.line, c.want)
		checkWords(t, m, strings.Fields(c.left)...)
	}
}

func TestSeeOfMarkers(t *testing.T) {
	m := with(t, "variable n marker m : f m ' m ; marker n")
	checkSee(t, m, "m", "marker")
	checkSee(t, m, "n", "marker")
	checkSee(t, m, "f", ": #1001 1001")
	check(t, m, "n", api.Answer{})
	checkSee(t, m, "n", "variable 0")
	checkWords(t, m, "n", "m", "f")
	check(t, m, "3 constant m", api.Answer{})
	checkSee(t, m, "m", "constant 3")
	check(t, m, "f . m", api.Answer{Out: "1001 ", Err: api.ErrWord, Word: 2})
	checkWords(t, m, "n")
	checkUnseen(t, m, "m")
}

func TestMarkersCannotBeMadeInBodies(t *testing.T) {
	for _, word := range []string{"marker", "forget"} {
		m := with(t, "marker m")
		for _, body := range []string{word, word + " m", word + " 7", word + " what"} {
			check(t, m, ": f "+body+" ;", api.Answer{Err: api.ErrForm, Word: 2})
			check(t, m, ": f m if "+body+" then ;", api.Answer{Err: api.ErrForm, Word: 4})
		}
		check(t, m, ": f "+ones(api.MaxBody)+word+" m ;", api.Answer{Err: api.ErrForm, Word: 2 + api.MaxBody})
		checkWords(t, m, "m")
	}
	m := with(t, "marker m")
	check(t, m, ": f "+strings.Repeat("m ", api.MaxBody)+"m ;", api.Answer{Err: api.ErrFull, Word: 2 + api.MaxBody})
	check(t, m, ": f "+strings.Repeat("m ", api.MaxBody)+"; f", api.Answer{})
	checkWords(t, m)
}
