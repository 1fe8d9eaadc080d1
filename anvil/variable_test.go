package anvil_test

import (
	"strconv"
	"strings"
	"testing"

	"anvil/anvil"
	"anvil/api"
)

func TestVariablesAndConstants(t *testing.T) {
	for _, c := range []struct{ line, out string }{
		{"variable v v @ . 5 v ! v @ . v .", "0 5 1000 "},
		{"variable v variable w 1 v ! 2 w ! v @ . w @ . -3 v ! v @ . w @ .", "1 2 -3 2 "},
		{"variable v 4 1000 ! 1000 @ . v @ .", "4 4 "},
		{"7 constant k k . k k + .", "7 14 "},
		{"1 2 constant k k . .", "2 1 "},
		{"0 constant nought -5 constant five nought . five .", "0 -5 "},
		{leastInt + " constant least least . variable v least v ! v @ .", "-9223372036854775808 -9223372036854775808 "},
		{"variable v v constant k 6 k ! v @ . k @ .", "6 6 "},
		{"variable v variable w w v ! 8 v @ ! w @ .", "8 "},
		{"variable v 5 v ! variable v v @ . 6 v ! 1000 @ . 1001 @ .", "0 5 6 "},
		{"1 constant k : f k ; 2 constant k f . k .", "1 2 "},
		{"variable v : f v @ ; 3 v ! variable v 4 v ! f . v @ .", "3 4 "},
		{"variable v : v v @ ; 9 1000 ! v .", "9 "},
		{"1 constant one : one one one + ; one .", "2 "},
		{"1 constant k k 1 + constant k k 1 + constant k k .", "3 "},
		{"variable dup dup .", "1000 "},
		{"5 constant + + . 1 constant ! variable @ @ . ! .", "5 1002 1 "},
		{"variable v : f v @ ; : @ 7 ; f . @ .", "0 7 "},
		{"variable abcdefghijkl abcdefghijkl . 5 constant ~ ~ .", "1000 5 "},
		{"variable\n\tv\r5 v\t!\nv @ .", "5 "},
		{"variable v : more v @ + v ! ; 1 more 2 more 3 more v @ .", "6 "},
		{"variable v : f 5 0 do i v @ + v ! loop ; f f v @ .", "20 "},
		{"variable v : f 1 v ! v @ if 2 v ! exit then 3 v ! ; f v @ .", "2 "},
		{"2 constant k : f k 0 do k . loop ; f", "2 2 "},
		{"variable v : f v @ dup . 5 < if v @ 1 + v ! recurse then ; f", "0 1 2 3 4 5 "},
	} {
		m := anvil.New()
		check(t, m, c.line, api.Answer{Out: c.out})
		checkStacks(t, m, nil, nil)
	}
}

func TestVariablesOutliveTheirLine(t *testing.T) {
	m := with(t, "variable v 5 v ! 6 constant k")
	check(t, m, "v @ . k .", api.Answer{Out: "5 6 "})
	check(t, m, "7 v ! what", api.Answer{Err: api.ErrWord, Word: 3})
	check(t, m, "v @ . k .", api.Answer{Out: "7 6 "})
	check(t, m, strings.Repeat(" ", api.MaxLine)+"8 v !", api.Answer{Err: api.ErrLong})
	checkSee(t, m, "v", "variable 7")
	checkWords(t, m, "v", "k")
}

func TestMachinesHaveTheirOwnVariables(t *testing.T) {
	a, b := with(t, "variable v 1 v !"), with(t, "variable v 2 v ! : f v @ . ;")
	check(t, a, "v @ . 3 v !", api.Answer{Out: "1 "})
	check(t, b, "f 4 v !", api.Answer{Out: "2 "})
	checkSee(t, a, "v", "variable 3")
	checkSee(t, b, "v", "variable 4")
	check(t, a, "1001 execute", api.Answer{Err: api.ErrGone, Word: 1})
	checkSee(t, b, "v", "variable 4")
}

func TestSeeOfVariablesAndConstants(t *testing.T) {
	m := with(t, "variable v 007 constant k")
	checkSee(t, m, "v", "variable 0")
	checkSee(t, m, "k", "constant 7")
	check(t, m, "-0012 v ! "+leastInt+" constant least : f v k least ' v ' k @ ! ; variable v", api.Answer{})
	checkSee(t, m, "v", "variable 0")
	checkSee(t, m, "least", "constant -9223372036854775808")
	checkSee(t, m, "f", ": #1000 #1001 #1002 1000 1001 @ !")
	check(t, m, "1000 @ . -12 v !", api.Answer{Out: "-12 "})
	checkSee(t, m, "v", "variable -12")
	check(t, m, "v constant v", api.Answer{})
	checkSee(t, m, "v", "constant 1004")
	check(t, m, ": v v ;", api.Answer{})
	checkSee(t, m, "v", ": #1005")
	check(t, m, "variable k", api.Answer{})
	checkSee(t, m, "k", "variable 0")
	checkWords(t, m, "v", "k", "least", "f", "v", "v", "v", "k")
	for _, name := range []string{"", "variable", "constant", "@", "1000", "#1000", "V", "v ", "variable 0"} {
		checkUnseen(t, m, name)
	}
}

// TestNamesOfVariablesAndConstants: a wrong name comes ahead of too few numbers, and the word of the line is the one ahead of it.
func TestNamesOfVariablesAndConstants(t *testing.T) {
	wrong := strings.Fields(": ; variable constant marker forget ' recurse if else then begin until again while repeat do loop i leave exit")
	wrong = append(wrong, "", "7", "-7", "0", "-0", "007", "999999999999999999", "1000000000000000000", "abcdefghijklm", "é", "a\x7f", "\x1f", "a\x80")
	for _, word := range []string{"variable", "constant"} {
		for _, name := range wrong {
			for _, ahead := range []string{"", "5 "} {
				m := with(t, "variable v 8 >r")
				at := len(strings.Fields(ahead))
				check(t, m, ahead+word+" "+name, api.Answer{Err: api.ErrName, Word: at})
				checkStacks(t, m, nil, nil)
				checkWords(t, m, "v")
				check(t, m, "3 . "+ahead+word+" "+name, api.Answer{Out: "3 ", Err: api.ErrName, Word: at + 2})
				check(t, m, "variable w w .", api.Answer{Out: "1001 "})
			}
		}
		for _, name := range []string{"!", "@", "execute", "~", "-", "--1", "1a", "If", "dup", "Variable", "abcdefghijkl", "v"} {
			m := with(t, "variable v")
			check(t, m, "1000 "+word+" "+name, api.Answer{})
			checkWords(t, m, "v", name)
		}
	}
}

func TestConstantTakesItsNumber(t *testing.T) {
	m := with(t, "9 >r")
	check(t, m, "constant k", api.Answer{Err: api.ErrUnder})
	checkStacks(t, m, nil, nil)
	checkWords(t, m)
	checkUnseen(t, m, "k")
	check(t, m, "3 . 1 drop constant k 4 .", api.Answer{Out: "3 ", Err: api.ErrUnder, Word: 4})
	check(t, m, "1 2 3 constant k", api.Answer{})
	checkStacks(t, m, []int{1, 2}, nil)
	check(t, m, "drop drop constant k", api.Answer{Err: api.ErrUnder, Word: 2})
	checkWords(t, m, "k")
	checkSee(t, m, "k", "constant 3")
	check(t, m, "' k .", api.Answer{Out: "1000 "})
}

// TestConstantsAreTheirOwn: what is laid where a constant's number was changes nothing in it.
func TestConstantsAreTheirOwn(t *testing.T) {
	m := with(t, "1 constant k 2 constant l 3 4")
	check(t, m, "k l", api.Answer{})
	checkStacks(t, m, []int{3, 4, 1, 2}, nil)
	check(t, m, "drop 9 k . l .", api.Answer{Out: "1 2 "})
	checkSee(t, m, "k", "constant 1")
}

func TestTokensOfAllKinds(t *testing.T) {
	m := anvil.New()
	check(t, m, "variable v 1 constant k : f ; variable w ' v . ' k . ' f . ' w . w .", api.Answer{Out: "1000 1001 1002 1003 1003 "})
	for _, c := range []struct {
		line string
		err  api.Errno
		word int
	}{
		{"variable", api.ErrName, 0}, {"variable 7", api.ErrName, 0}, {"constant k", api.ErrUnder, 0}, {"1 constant if", api.ErrName, 1},
		{": g what ;", api.ErrWord, 2}, // it was begun: it has 1004
	} {
		check(t, m, c.line, api.Answer{Err: c.err, Word: c.word})
	}
	check(t, m, "variable v v . ' v . 2 constant k ' k .", api.Answer{Out: "1005 1005 1006 "})
	checkWords(t, m, "v", "k", "f", "w", "v", "k")
	check(t, m, ": g ' v ' k ; variable v 3 constant k g . .", api.Answer{Out: "1006 1005 "})
}

func TestPlaces(t *testing.T) {
	const words = "variable v 1 constant k : f ; variable w 5 w !"
	for _, c := range []struct {
		line string
		err  api.Errno
	}{
		{"@", api.ErrUnder}, {"!", api.ErrUnder}, {"1000 !", api.ErrUnder}, {"v !", api.ErrUnder}, {"7 !", api.ErrUnder},
		{"0 @", api.ErrPlace}, {"4 @", api.ErrPlace}, {"-1 @", api.ErrPlace}, {"-1000 @", api.ErrPlace}, {"999 @", api.ErrPlace},
		{"1004 @", api.ErrPlace}, {leastInt + " @", api.ErrPlace}, {"999999999999999999 @", api.ErrPlace},
		{"1001 @", api.ErrPlace}, {"' k @", api.ErrPlace}, {"k @", api.ErrPlace}, {"1002 @", api.ErrPlace}, {"' f @", api.ErrPlace},
		{"3 4 !", api.ErrPlace}, {"v 3 !", api.ErrPlace}, {"9 999 !", api.ErrPlace}, {"9 1004 !", api.ErrPlace}, {"9 -1 !", api.ErrPlace},
		{"9 ' k !", api.ErrPlace}, {"9 ' f !", api.ErrPlace}, {"9 " + leastInt + " !", api.ErrPlace}, {"9 v @ !", api.ErrPlace},
		{ones(15) + "4 @", api.ErrPlace}, {ones(15) + "4 !", api.ErrPlace},
	} {
		m := with(t, words)
		check(t, m, "8 >r", api.Answer{})
		check(t, m, "3 . "+c.line, api.Answer{Out: "3 ", Err: c.err, Word: len(strings.Fields(c.line)) + 1})
		checkStacks(t, m, nil, nil)
		checkSee(t, m, "v", "variable 0")
		checkSee(t, m, "w", "variable 5")
		checkSee(t, m, "k", "constant 1")
		check(t, m, ": g "+c.line+" ; 3 . g", api.Answer{Out: "3 ", Err: c.err, Word: len(strings.Fields(c.line)) + 5})
		checkSee(t, m, "v", "variable 0")
	}
}

func TestFullStackOfVariables(t *testing.T) {
	const words = "variable v 5 constant k : f v ; : g k ;"
	for _, word := range []string{"v", "k", "f", "g", "' v", "' k"} {
		m := with(t, words)
		check(t, m, ones(api.MaxStack)+word, api.Answer{Err: api.ErrOver, Word: api.MaxStack})
		checkStacks(t, m, nil, nil)
		check(t, m, ones(api.MaxStack-1)+word, api.Answer{})
		if got := len(m.Stack()); got != api.MaxStack {
			t.Errorf("P5: %d numbers behind %q", got, word)
		}
	}
	m := with(t, words)
	check(t, m, ones(api.MaxStack-1)+"v @", api.Answer{})
	check(t, m, "drop v !", api.Answer{})
	checkSee(t, m, "v", "variable 1")
	check(t, m, "1 constant l variable w", api.Answer{})
	check(t, m, "1 1", api.Answer{})
	check(t, m, "variable x 7 constant l", api.Answer{Err: api.ErrOver, Word: 2})
	checkWords(t, m, "v", "k", "f", "g", "l", "w", "x")
}

func TestMaxWordsOfAllKinds(t *testing.T) {
	m := anvil.New()
	var names []string
	for n := range api.MaxWords {
		name := "w" + strconv.Itoa(n)
		check(t, m, []string{"variable " + name, "7 constant " + name, ": " + name + " ;"}[n%3], api.Answer{})
		names = append(names, name)
	}
	for _, c := range []struct {
		line string
		err  api.Errno
		word int
	}{
		{"variable x", api.ErrFull, 0}, {"variable w0", api.ErrFull, 0}, {"5 constant x", api.ErrFull, 1}, {"constant x", api.ErrFull, 0},
		{": x ;", api.ErrFull, 0}, {": x what ;", api.ErrFull, 0},
		{"variable", api.ErrName, 0}, {"variable 7", api.ErrName, 0}, {"variable abcdefghijklm", api.ErrName, 0}, {"variable do", api.ErrName, 0},
		{"constant", api.ErrName, 0}, {"constant -7", api.ErrName, 0}, {"constant abcdefghijklm", api.ErrName, 0}, {"constant '", api.ErrName, 0},
	} {
		check(t, m, c.line, api.Answer{Err: c.err, Word: c.word})
		checkWords(t, m, names...)
	}
	check(t, m, "4 w0 ! w0 @ . w1 . w39 . ' w38 .", api.Answer{Out: "4 7 1039 1038 "})
}

// TestFailingBehindAStore: what was done to variables stays, whether by the line or by a definition.
func TestFailingBehindAStore(t *testing.T) {
	const words = "variable v variable w 1 v ! 2 w ! : set 9 v ! ; : fail 9 v ! 0 / 8 w ! ; : deep 7 v ! fail 6 v ! ;"
	for _, c := range []struct {
		line string
		err  api.Errno
		word int
		v, w string
	}{
		{"5 v ! what 6 w !", api.ErrWord, 3, "5", "2"}, {"5 v ! 6 w ! /", api.ErrUnder, 6, "5", "6"},
		{"5 v ! v @ 0 /", api.ErrZero, 6, "5", "2"}, {"5 v ! 6 4 !", api.ErrPlace, 5, "5", "2"}, {"5 v ! variable", api.ErrName, 3, "5", "2"},
		{"5 v ! : f 6 w ! what ;", api.ErrWord, 8, "5", "2"}, {"set set what", api.ErrWord, 2, "9", "2"},
		{"1 fail", api.ErrZero, 1, "9", "2"}, {"fail", api.ErrUnder, 0, "9", "2"}, {"1 deep 5 w !", api.ErrZero, 1, "9", "2"},
		{"1 ' fail execute", api.ErrZero, 3, "9", "2"}, {"1 ' deep execute 5 v !", api.ErrZero, 3, "9", "2"},
		{": f begin v @ 1 + v ! again ; f", api.ErrSteps, 11, "143", "2"}, {": f v @ 1 + v ! recurse ; f", api.ErrDeep, 10, "13", "2"},
		{": f begin v @ dup . 1 + v ! again ; f", api.ErrOut, 13, "103", "2"},
	} {
		m := with(t, words)
		told := m.Do(c.line)
		if told.Err != c.err || told.Word != c.word {
			t.Errorf("P4: Do(%q) = %+v, want %d, %d", c.line, told, c.err, c.word)
		}
		checkStacks(t, m, nil, nil)
		checkSee(t, m, "v", "variable "+c.v)
		checkSee(t, m, "w", "variable "+c.w)
		check(t, m, "v @ . w @ .", api.Answer{Out: c.v + " " + c.w + " "})
	}
}

func TestWhatWasMadeAheadOfAFailureStaysOfAllKinds(t *testing.T) {
	m := anvil.New()
	check(t, m, "variable v 3 constant k 4 v ! 1 0 / variable w", api.Answer{Err: api.ErrZero, Word: 10})
	checkWords(t, m, "v", "k")
	check(t, m, "v @ . k .", api.Answer{Out: "4 3 "})
}
