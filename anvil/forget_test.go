package anvil_test

import (
	"slices"
	"strconv"
	"strings"
	"testing"

	"anvil/anvil"
	"anvil/api"
)

func TestForgetting(t *testing.T) {
	for _, c := range []struct{ line, out, words string }{
		{": a 1 ; forget a", "", ""},
		{": a 1 ; : b 2 ; forget b a .", "1 ", "a"},
		{": a 1 ; : b 2 ; : c 3 ; forget b a .", "1 ", "a"},
		{": a 1 ; : b 2 ; : c 3 ; forget a", "", ""},
		{"variable v forget v", "", ""},
		{"5 constant k 6 forget k .", "6 ", ""},
		{"marker m forget m", "", ""},
		{": a 1 ; variable v marker m 5 constant k forget v", "", "a"},
		{": a 1 ; marker m variable v 5 constant k forget m a .", "1 ", "a"},
		{": a 1 ; : b a . ; : a 2 ; : c a . ; b c forget a b a .", "1 2 1 1 ", "a b"},
		{": a 1 ; : a 2 ; : a 3 ; a . forget a a . forget a a .", "3 2 1 ", "a"},
		{"1 constant a variable a : a 3 ; a . forget a a . forget a a .", "3 1001 1 ", "a"},
		{": dup 3 ; dup . forget dup 4 dup . .", "3 4 4 ", ""},
		{"7 constant @ variable v @ . forget @ variable v v @ .", "7 0 ", "v"},
		{": a 1 ; forget a : a 2 ; a .", "2 ", "a"},
		{": a 1 ; : b a ; forget b : c a . ; c", "1 ", "a c"},
		{"variable v 5 v ! forget v variable v v @ .", "0 ", "v"},
		{"variable v 5 v ! variable v 6 v ! forget v v @ .", "5 ", "v"},
		{": a 1 ; : b 2 ; forget\n\tb\r", "", "a"},
		{": abcdefghijkl 1 ; : ~ 2 ; forget ~ forget abcdefghijkl", "", ""},
		{": a 1 ; : b ' a ; forget b ' a execute .", "1 ", "a"},
	} {
		m := anvil.New()
		check(t, m, c.line, api.Answer{Out: c.out})
		checkStacks(t, m, nil, nil)
		checkWords(t, m, strings.Fields(c.words)...)
	}
}

func TestExamplesOfForgetting(t *testing.T) {
	m := anvil.New()
	check(t, m, ": hi 72 emit ; ' hi execute", api.Answer{Out: "H"})
	check(t, m, "' hi forget hi execute", api.Answer{Err: api.ErrGone, Word: 4})
	check(t, m, "marker m : a 1 ; : b a ; m b", api.Answer{Err: api.ErrWord, Word: 11})
	checkWords(t, m)
}

func TestForgettingFromLineToLine(t *testing.T) {
	m := with(t, ": a 1 . ; variable v : b 2 . ;")
	check(t, m, "7 8 >r forget v", api.Answer{})
	checkStacks(t, m, []int{7}, []int{8})
	checkWords(t, m, "a")
	checkSee(t, m, "a", ": 1 .")
	checkUnseen(t, m, "v")
	checkUnseen(t, m, "b")
	check(t, m, "a b", api.Answer{Out: "1 ", Err: api.ErrWord, Word: 1})
	check(t, m, "v", api.Answer{Err: api.ErrWord})
	check(t, m, "forget v", api.Answer{Err: api.ErrWord})
	check(t, m, "' b", api.Answer{Err: api.ErrWord})
	check(t, m, ": c b ;", api.Answer{Err: api.ErrWord, Word: 2})
	check(t, m, ": c ' v ;", api.Answer{Err: api.ErrWord, Word: 2})
	check(t, m, "a forget a a", api.Answer{Out: "1 ", Err: api.ErrWord, Word: 3})
	checkWords(t, m)
}

// wrongForgets: lines of one forget, which fail whatever words there are but for those of these names.
var wrongForgets = []struct {
	line string
	err  api.Errno
}{
	{"forget", api.ErrName}, {"forget\n\t ", api.ErrName},
	{"forget if", api.ErrName}, {"forget ;", api.ErrName}, {"forget :", api.ErrName}, {"forget '", api.ErrName}, {"forget forget", api.ErrName},
	{"forget marker", api.ErrName}, {"forget variable", api.ErrName}, {"forget constant", api.ErrName}, {"forget i", api.ErrName}, {"forget exit", api.ErrName},
	{"forget recurse", api.ErrName}, {"forget do", api.ErrName}, {"forget if a", api.ErrName},
	{"forget 7", api.ErrWord}, {"forget -7", api.ErrWord}, {"forget 1000", api.ErrWord}, {"forget #1000", api.ErrWord},
	{"forget abcdefghijklm", api.ErrWord}, {"forget é", api.ErrWord}, {"forget \x7f", api.ErrWord}, {"forget \x00", api.ErrWord},
	{"forget dup", api.ErrWord}, {"forget +", api.ErrWord}, {"forget @", api.ErrWord}, {"forget execute", api.ErrWord}, {"forget depth", api.ErrWord},
	{"forget what", api.ErrWord}, {"forget A", api.ErrWord}, {"forget a0b", api.ErrWord}, {"forget what a", api.ErrWord},
}

func TestWrongForgets(t *testing.T) {
	for _, c := range wrongForgets {
		for _, ahead := range []string{"", "5 ", ones(api.MaxStack)} {
			m := with(t, ": a 1 ; variable v 8 >r")
			at := len(strings.Fields(ahead))
			check(t, m, ahead+c.line, api.Answer{Err: c.err, Word: at})
			checkStacks(t, m, nil, nil)
			checkWords(t, m, "a", "v")
			check(t, m, "3 . "+c.line, api.Answer{Out: "3 ", Err: c.err, Word: 2})
			check(t, m, "variable w w .", api.Answer{Out: "1002 "})
		}
	}
}

// full gives a machine with as many words as there may be: a0, a1 and so on.
func full(t *testing.T) *anvil.Machine {
	t.Helper()
	m := anvil.New()
	for n := range api.MaxWords {
		name := "a" + strconv.Itoa(n)
		check(t, m, []string{"marker " + name, "variable " + name, "7 constant " + name, ": " + name + " 7 ;"}[n%4], api.Answer{})
	}
	return m
}

func TestForgetIsNeverTooMuch(t *testing.T) {
	m := full(t)
	names := m.Words()
	for _, c := range wrongForgets {
		check(t, m, c.line, api.Answer{Err: c.err})
		checkWords(t, m, names...)
	}
	check(t, m, "variable x", api.Answer{Err: api.ErrFull})
	check(t, m, "forget a39", api.Answer{})
	checkWords(t, m, names[:39]...)
	check(t, m, "variable x x . variable y", api.Answer{Out: "1040 ", Err: api.ErrFull, Word: 4})
	checkWords(t, m, append(names[:39:39], "x")...)
	check(t, m, ones(api.MaxStack)+"forget a3 drop", api.Answer{})
	checkWords(t, m, names[:3]...)
	for n := range api.MaxWords - 3 {
		check(t, m, "variable x x .", api.Answer{Out: strconv.Itoa(1041+n) + " "})
	}
	check(t, m, "variable x", api.Answer{Err: api.ErrFull})
	check(t, m, "forget a0 : x ; x", api.Answer{})
	checkWords(t, m, "x")
}

func TestTokensGoOnBehindAForgetting(t *testing.T) {
	m := with(t, ": a ; : b ; : c ;")
	check(t, m, "forget b variable d d .", api.Answer{Out: "1003 "})
	check(t, m, "forget d forget a", api.Answer{})
	check(t, m, ": a ; ' a .", api.Answer{Out: "1004 "})
	check(t, m, ": b what ;", api.Answer{Err: api.ErrWord, Word: 2})
	check(t, m, "forget b", api.Answer{Err: api.ErrWord})
	check(t, m, "forget", api.Answer{Err: api.ErrName})
	check(t, m, "1 constant k marker n variable v v . ' n . ' k .", api.Answer{Out: "1008 1007 1006 "})
	check(t, m, "n forget k variable v v .", api.Answer{Out: "1009 "})
	checkWords(t, m, "a", "v")
	checkSee(t, m, "a", ":")
	check(t, m, ": f a v ;", api.Answer{})
	checkSee(t, m, "f", ": #1004 #1009")
}

// TestTokensOfWhatIsForgotten: no token of a forgotten word comes to any other one, neither to an older nor to a newer one of its name.
func TestTokensOfWhatIsForgotten(t *testing.T) {
	for _, c := range []struct {
		line string
		err  api.Errno
		word int
	}{
		{": a ; ' a forget a execute", api.ErrGone, 7},
		{": a ; : a ; ' a forget a execute", api.ErrGone, 10},
		{": a ; ' a forget a : a ; execute", api.ErrGone, 10},
		{"variable v v forget v execute", api.ErrGone, 5},
		{"5 constant k ' k forget k execute", api.ErrGone, 7},
		{"marker n ' n forget n execute", api.ErrGone, 6},
		{"marker n ' n n execute", api.ErrGone, 5},
		{"marker n : a ; ' a n execute", api.ErrGone, 8},
		{"marker n : a ; : b ' a execute ; ' b execute ' b n execute", api.ErrGone, 17},
		{"variable v v forget v @", api.ErrPlace, 5},
		{"variable v v forget v variable v @", api.ErrPlace, 7},
		{"variable v variable v v forget v @", api.ErrPlace, 7},
		{"marker n variable v v n @", api.ErrPlace, 6},
		{"variable v 5 v forget v !", api.ErrPlace, 6},
		{"variable v 5 v forget v variable v !", api.ErrPlace, 8},
		{"marker n variable v 5 v n !", api.ErrPlace, 7},
		{": f 1001 execute ; variable v forget v f", api.ErrGone, 9},
		{": f 1001 @ ; variable v forget v f", api.ErrPlace, 9},
		{": f 9 1001 ! ; variable v forget v f", api.ErrPlace, 10},
	} {
		m := anvil.New()
		check(t, m, c.line, api.Answer{Err: c.err, Word: c.word})
		checkStacks(t, m, nil, nil)
		for _, name := range m.Words() {
			if text, _ := m.See(name); strings.HasPrefix(text, "variable") && text != "variable 0" {
				t.Errorf("P4: %q is %q behind %q", name, text, c.line)
			}
		}
	}
}

// TestFailingBehindAForget: what a word of the line made to be forgotten ahead of the one that fails is not there again.
func TestFailingBehindAForget(t *testing.T) {
	for _, c := range []struct {
		line  string
		err   api.Errno
		word  int
		words string
	}{
		{"forget b what", api.ErrWord, 2, "a m"},
		{"forget b b", api.ErrWord, 2, "a m"},
		{"forget b forget b", api.ErrWord, 2, "a m"},
		{"forget b forget", api.ErrName, 2, "a m"},
		{"forget b 1 0 /", api.ErrZero, 4, "a m"},
		{"forget b : c what ;", api.ErrWord, 4, "a m"},
		{"forget b : c ; what", api.ErrWord, 5, "a m c"},
		{"forget a variable", api.ErrName, 2, ""},
		{"m what", api.ErrWord, 1, "a"},
		{"m m", api.ErrWord, 1, "a"},
		{"m b", api.ErrWord, 1, "a"},
		{"m : c ; m", api.ErrWord, 4, "a c"},
		{"what forget b", api.ErrWord, 0, "a m b"},
		{"what m", api.ErrWord, 0, "a m b"},
		{": c b forget a ;", api.ErrForm, 3, "a m b"},
		{": c m ; : d m", api.ErrForm, 6, "a m b c"},
	} {
		m := with(t, ": a 1 . ; marker m : b 2 . ;")
		check(t, m, "8 9 >r", api.Answer{})
		check(t, m, c.line, api.Answer{Err: c.err, Word: c.word})
		checkStacks(t, m, nil, nil)
		checkWords(t, m, strings.Fields(c.words)...)
	}
}

func TestLongLinesForgetNothing(t *testing.T) {
	m := with(t, ": a 1 . ; marker m : b 2 . ; 7 8 >r")
	for _, line := range []string{"forget a", "m", "' m execute"} {
		check(t, m, line+strings.Repeat(" ", api.MaxLine), api.Answer{Err: api.ErrLong})
	}
	checkWords(t, m, "a", "m", "b")
	checkStacks(t, m, []int{7}, []int{8})
	check(t, m, "a b", api.Answer{Out: "1 2 "})
}

func TestMachinesForgetOnTheirOwn(t *testing.T) {
	const words = ": a 1 . ; marker m variable v 5 v !"
	a, b := with(t, words), with(t, words)
	check(t, a, "forget a", api.Answer{})
	checkWords(t, b, "a", "m", "v")
	check(t, b, "a v @ . m", api.Answer{Out: "1 5 "})
	check(t, a, ": a 2 . ; : dup 3 . ; a dup forget dup", api.Answer{Out: "2 3 "})
	checkWords(t, a, "a")
	checkWords(t, b, "a")
	check(t, b, "a 4 dup . . ' a . variable w w .", api.Answer{Out: "1 4 4 1000 1003 "})
}

// TestListsOutliveAForgetting: neither forgetting nor what is made in the room of the forgotten changes what came out.
func TestListsOutliveAForgetting(t *testing.T) {
	m := with(t, ": a ; marker m : b ; : c ;")
	kept, again := m.Words(), m.Words()
	check(t, m, "m : x ; : y ; : z ;", api.Answer{})
	if want := []string{"a", "m", "b", "c"}; !slices.Equal(kept, want) || !slices.Equal(again, want) {
		t.Errorf("P2: the lists of words are %q and %q now", kept, again)
	}
	for _, list := range [][]string{kept[:cap(kept)], m.Words()} {
		for at := range list {
			list[at] = "other"
		}
	}
	checkWords(t, m, "a", "x", "y", "z")
	check(t, m, "forget x", api.Answer{})
	checkWords(t, m, "a")
}
