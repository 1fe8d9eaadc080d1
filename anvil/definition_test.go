package anvil_test

import (
	"slices"
	"strconv"
	"strings"
	"testing"

	"anvil/anvil"
	"anvil/api"
)

func checkWords(t *testing.T, m *anvil.Machine, want ...string) {
	t.Helper()
	if got := m.Words(); !slices.Equal(got, want) {
		t.Errorf("P5: Words() = %q, want %q", got, want)
	}
}

func checkSee(t *testing.T, m *anvil.Machine, name, want string) {
	t.Helper()
	if got, err := m.See(name); got != want || err != api.OK {
		t.Errorf("P6: See(%q) = %q, %d, want %q", name, got, err, want)
	}
}

func checkUnseen(t *testing.T, m *anvil.Machine, name string) {
	t.Helper()
	if got, err := m.See(name); got != "" || err != api.ErrWord {
		t.Errorf("P6: See(%q) = %q, %d, want ErrWord", name, got, err)
	}
}

// with gives a machine that has done a line.
func with(t *testing.T, line string) *anvil.Machine {
	t.Helper()
	m := anvil.New()
	if a := m.Do(line); a.Err != api.OK {
		t.Fatalf("P4: Do(%q) = %+v", line, a)
	}
	return m
}

// ones is a body of n words.
func ones(n int) string { return strings.Repeat("1 ", n) }

func TestDefinitionsAreDone(t *testing.T) {
	for _, c := range []struct{ line, out string }{
		{": sq dup * ; 5 sq .", "25 "},
		{": none ; none", ""},
		{": a 1 . ; : b a 2 . a ; : c b 3 . b ; c", "1 2 1 3 1 2 1 "},
		{": a\n1 .\n;\ta\r", "1 "},
		{": aside >r >r r> r> ; 1 2 aside . .", "2 1 "},
		{": over 9 . ; over : a over ; a", "9 9 "},
		{": a 1 . ; : a a 2 . ; a", "1 2 "},
		{": ~!#,[{] 5 ; ~!#,[{] .", "5 "},
		{": 1+ 1 + ; 4 1+ .", "5 "},
		{": - 7 ; : -- - ; -- . -1 .", "7 -1 "},
		{": abcdefghijkl 8 ; abcdefghijkl .", "8 "},
	} {
		m := anvil.New()
		check(t, m, c.line, api.Answer{Out: c.out})
		checkStacks(t, m, nil, nil)
	}
}

func TestWordsStayWhatTheyWere(t *testing.T) {
	m := with(t, ": one 1 ; : two one one + ;")
	check(t, m, ": one 10 ; : + - ; two . one . 5 3 + .", api.Answer{Out: "2 10 2 "})
	checkWords(t, m, "one", "two", "one", "+")
	checkSee(t, m, "two", ": #1000 #1000 +")
	checkSee(t, m, "+", ": -")
	check(t, m, ": two two one ; two . .", api.Answer{Out: "10 2 "})
	checkSee(t, m, "two", ": #1001 #1002")
}

func TestDefinitionsOutliveTheirLine(t *testing.T) {
	line := []byte(": f dup if 1 . then ' g ;")
	m := with(t, ": g ;")
	check(t, m, string(line), api.Answer{})
	check(t, m, "what", api.Answer{Err: api.ErrWord})
	checkSee(t, m, "f", ": dup if 1 . then 1000")
	check(t, m, "5 f . .", api.Answer{Out: "1 1000 5 "})
}

func TestMachinesHaveTheirOwnWords(t *testing.T) {
	a, b := with(t, ": f 1 . ; : dup 2 . ;"), anvil.New()
	checkWords(t, b)
	checkUnseen(t, b, "f")
	check(t, b, "3 dup . . : f 4 . ; f", api.Answer{Out: "3 3 4 "})
	check(t, a, "f dup", api.Answer{Out: "1 2 "})
	checkSee(t, b, "f", ": 4 .")
}

func TestNamesOfNewWords(t *testing.T) {
	bolds := strings.Fields(": ; variable constant marker forget ' recurse if else then begin until again while repeat do loop i leave exit")
	for _, name := range append(bolds, "7", "-7", "0", "-0", "007", "abcdefghijklm", "é", "a\x7f", "\x1f", "a\x80") {
		m := with(t, "1 2 >r")
		check(t, m, "1 . : "+name+" 2 . ;", api.Answer{Out: "1 ", Err: api.ErrName, Word: 2})
		checkStacks(t, m, nil, nil)
		checkWords(t, m)
	}
	check(t, anvil.New(), "1 :", api.Answer{Err: api.ErrName, Word: 1})
	for _, name := range []string{"!", "~", "-", "--1", "1a", "1234567890a", "If", "dup", "@", "execute", "::", "abcdefghijkl", "-1x"} {
		m := with(t, ": "+name+" 65 emit ;")
		checkWords(t, m, name)
		check(t, m, name, api.Answer{Out: "A"})
	}
}

// TestWrongBodies: each line fails while its definition is read, which then is not there.
func TestWrongBodies(t *testing.T) {
	for _, c := range []struct {
		line string
		err  api.Errno
		word int
	}{
		{": f : g ; ;", api.ErrForm, 2}, {": f variable v ;", api.ErrForm, 2}, {": f constant v ;", api.ErrForm, 2},
		{": f marker v ;", api.ErrForm, 2}, {": f 1 forget f ;", api.ErrForm, 3}, {": f variable", api.ErrForm, 2},
		{": f what ;", api.ErrWord, 2}, {": f f ;", api.ErrWord, 2}, {": f 1000000000000000000 ;", api.ErrWord, 2},
		{": f é ;", api.ErrWord, 2}, {": f dup what if", api.ErrWord, 3}, {": f what else", api.ErrWord, 2},
		{": f else what", api.ErrForm, 2}, {": f if what", api.ErrWord, 3},
		{": f", api.ErrForm, 1}, {": f 1", api.ErrForm, 2}, {": f 1 \n\t", api.ErrForm, 2}, {": f if then", api.ErrForm, 3},
		{": f if", api.ErrForm, 2}, {": f 1 begin 2 3", api.ErrForm, 5}, {": dup dup", api.ErrForm, 2},
		{": f ' ;", api.ErrName, 2}, {": f '", api.ErrName, 2}, {": f ' if then ;", api.ErrName, 2}, {": f ' ' ;", api.ErrName, 2},
		{": f ' f ;", api.ErrWord, 2}, {": f ' dup ;", api.ErrWord, 2}, {": f ' 7 ;", api.ErrWord, 2}, {": f ' what", api.ErrWord, 2},
		{": f ' é ;", api.ErrWord, 2}, {": f 1 ' abcdefghijklm ;", api.ErrWord, 3},
		{": f ' a", api.ErrForm, 3}, {": f if ' a ;", api.ErrForm, 5},
	} {
		m := with(t, ": a 1 ;")
		check(t, m, "8 >r 9", api.Answer{})
		check(t, m, c.line, api.Answer{Err: c.err, Word: c.word})
		checkStacks(t, m, nil, nil)
		checkWords(t, m, "a")
		checkUnseen(t, m, "f")
		check(t, m, "9 . "+c.line, api.Answer{Out: "9 ", Err: c.err, Word: c.word + 2})
	}
}

// TestWhatCanStandWhere tries bodies of words that open and shut; a number below 0 says that the body is right.
func TestWhatCanStandWhere(t *testing.T) {
	for _, c := range []struct {
		body string
		word int // the first that can't stand there, counted in the body
	}{
		{"if then ;", -1}, {"if else then ;", -1}, {"begin until ;", -1}, {"begin again ;", -1}, {"begin while repeat ;", -1},
		{"do loop ;", -1}, {"do i leave loop ;", -1}, {"recurse exit ;", -1},
		{"if if then else if then then ;", -1}, {"begin begin until while begin again repeat ;", -1},
		{"do do loop do i loop leave loop ;", -1}, {"if begin do if i else leave then loop until else begin while do loop repeat then ;", -1},
		{"do begin while i repeat begin leave until if i then loop ;", -1}, {"if then if else then begin until do loop ;", -1},
		{"else ;", 0}, {"then ;", 0}, {"until ;", 0}, {"again ;", 0}, {"while ;", 0}, {"repeat ;", 0}, {"loop ;", 0}, {"i ;", 0}, {"leave ;", 0},
		{"if ;", 1}, {"if else ;", 2}, {"begin ;", 1}, {"begin while ;", 2}, {"do ;", 1},
		{"if else else then ;", 2}, {"if then then ;", 2}, {"if then else ;", 2}, {"if until ;", 1}, {"if again ;", 1},
		{"if while ;", 1}, {"if repeat ;", 1}, {"if loop ;", 1}, {"if else until ;", 2}, {"if else while ;", 2}, {"if else loop ;", 2},
		{"begin else ;", 1}, {"begin then ;", 1}, {"begin repeat ;", 1}, {"begin loop ;", 1}, {"begin until until ;", 2},
		{"begin while while ;", 2}, {"begin while until ;", 2}, {"begin while again ;", 2}, {"begin while then ;", 2},
		{"begin while else ;", 2}, {"begin while loop ;", 2}, {"begin while repeat repeat ;", 3}, {"begin again while ;", 2},
		{"do else ;", 1}, {"do then ;", 1}, {"do until ;", 1}, {"do again ;", 1}, {"do while ;", 1}, {"do repeat ;", 1}, {"do loop loop ;", 2},
		{"if begin then until ;", 2}, {"begin if until then ;", 2}, {"begin if while then repeat ;", 2}, {"begin while if repeat then ;", 3},
		{"do if loop then ;", 2}, {"if do then loop ;", 2}, {"begin do until loop ;", 2}, {"do begin loop until ;", 2}, {"begin do while loop ;", 2},
		{"if do else loop then ;", 2}, {"if begin else until then ;", 2}, {"if do loop i then ;", 3}, {"do loop leave ;", 2},
		{"do loop i ;", 2}, {"do do loop loop leave ;", 4}, {"begin i until ;", 1}, {"if leave then ;", 1},
		{"do do loop i leave loop i ;", 6}, {"if do loop ;", 3}, {"do do loop ;", 3},
	} {
		m := with(t, ": a 1 ;")
		if c.word < 0 {
			check(t, m, ": f "+c.body, api.Answer{})
			checkSee(t, m, "f", ": "+strings.TrimSuffix(c.body, " ;"))
			continue
		}
		check(t, m, ": f "+c.body, api.Answer{Err: api.ErrForm, Word: c.word + 2})
		checkWords(t, m, "a")
	}
}

func TestLoopsAreOfOneDefinition(t *testing.T) {
	m := with(t, ": f 2 0 do i . loop ;")
	check(t, m, ": g do f loop i ;", api.Answer{Err: api.ErrForm, Word: 5})
	check(t, m, ": g 2 0 do f i . loop ; g", api.Answer{Out: "0 1 0 0 1 1 "})
	check(t, m, ": h i ;", api.Answer{Err: api.ErrForm, Word: 2})
}

func TestMaxBody(t *testing.T) {
	full := ": f " + ones(api.MaxBody)
	for _, c := range []struct {
		line string
		err  api.Errno
		word int
	}{
		{full + ";", api.OK, 0},
		{full + "1 ;", api.ErrFull, 62}, {full + "dup ;", api.ErrFull, 62}, {full + "if then ;", api.ErrFull, 62},
		{full + "exit ;", api.ErrFull, 62}, {full + "a ;", api.ErrFull, 62}, {full + "' a ;", api.ErrFull, 62}, {full + "' a", api.ErrFull, 62},
		{full + "else ;", api.ErrForm, 62}, {full + "i ;", api.ErrForm, 62}, {full + ": ;", api.ErrForm, 62},
		{full + "what ;", api.ErrWord, 62}, {full + "' what ;", api.ErrWord, 62}, {full + "' if ;", api.ErrName, 62},
		{full + "'", api.ErrName, 62}, {full, api.ErrForm, 61},
		{": f if " + ones(58) + "then ;", api.OK, 0}, {": f if " + ones(59) + "then ;", api.ErrFull, 62}, {": f if " + ones(59) + "; 1", api.ErrForm, 62},
		{": f " + strings.Repeat("' a ", 60) + ";", api.OK, 0}, {": f " + strings.Repeat("' a ", 60) + "1 ;", api.ErrFull, 122},
		{": f " + strings.Repeat("' a ", 61) + ";", api.ErrFull, 122},
	} {
		m := with(t, ": a 1 ;")
		check(t, m, c.line, api.Answer{Err: c.err, Word: c.word})
		if c.err == api.OK {
			checkWords(t, m, "a", "f")
		} else {
			checkWords(t, m, "a")
		}
	}
}

func TestMaxWords(t *testing.T) {
	m := anvil.New()
	var names []string
	for n := range api.MaxWords {
		check(t, m, ": w"+strconv.Itoa(n)+" "+strconv.Itoa(n)+" ;", api.Answer{})
		names = append(names, "w"+strconv.Itoa(n))
	}
	for _, c := range []struct {
		line string
		err  api.Errno
		word int
	}{
		{": x ;", api.ErrFull, 0}, {": w0 ;", api.ErrFull, 0}, {"1 : x what ;", api.ErrFull, 1}, {": x", api.ErrFull, 0},
		{": 7 ;", api.ErrName, 0}, {": if ;", api.ErrName, 0}, {"1 1 :", api.ErrName, 2}, {": ; ;", api.ErrName, 0},
		{"w0 w39 what", api.ErrWord, 2}, {"' w39 drop ' x", api.ErrWord, 3},
		{"1 variable x", api.ErrFull, 1}, {"variable w0", api.ErrFull, 0}, {"1 variable", api.ErrName, 1}, {"variable 7", api.ErrName, 0},
		{"1 constant x", api.ErrFull, 1}, {"constant x", api.ErrFull, 0}, {"constant", api.ErrName, 0}, {"constant 7", api.ErrName, 0},
		{"constant ;", api.ErrName, 0}, {"variable abcdefghijklm", api.ErrName, 0}, {"constant abcdefghijklm", api.ErrName, 0},
	} {
		check(t, m, c.line, api.Answer{Err: c.err, Word: c.word})
		checkWords(t, m, names...)
	}
	check(t, m, "w0 . w39 . ' w39 .", api.Answer{Out: "0 39 1039 "})
}

func TestMaxDepth(t *testing.T) {
	m := with(t, ": f dup if 1 - recurse then ;")
	check(t, m, strconv.Itoa(api.MaxDepth-1)+" f . 11 f .", api.Answer{Out: "0 0 "})
	check(t, m, "1 . "+strconv.Itoa(api.MaxDepth)+" f 2 .", api.Answer{Out: "1 ", Err: api.ErrDeep, Word: 3})
	checkStacks(t, m, nil, nil)
	checkWords(t, m, "f")

	m = with(t, ": d1 1 . ;")
	for n := 2; n <= api.MaxDepth+1; n++ {
		check(t, m, ": d"+strconv.Itoa(n)+" d"+strconv.Itoa(n-1)+" ;", api.Answer{})
	}
	check(t, m, "d12", api.Answer{Out: "1 "})
	check(t, m, "d13", api.Answer{Err: api.ErrDeep})
	check(t, m, "d12 d12 d11 d13 d1", api.Answer{Out: "1 1 1 ", Err: api.ErrDeep, Word: 3})
	check(t, with(t, ": e ; : f dup if 1 - recurse e else e then ;"), "10 f 11 f", api.Answer{Err: api.ErrDeep, Word: 3})
}

// TestMaxSteps spends n+4 steps by "n spend": the number, the word, its 0 and do, and n times its loop.
func TestMaxSteps(t *testing.T) {
	m := with(t, ": spend 0 do loop ; : two dup drop ;")
	for _, c := range []struct {
		line string
		want api.Answer
	}{
		{"992 spend 2 3 + .", api.Answer{Out: "5 "}},
		{"996 spend", api.Answer{}}, {"997 spend", api.Answer{Err: api.ErrSteps, Word: 1}},
		{"996 spend 1", api.Answer{Err: api.ErrSteps, Word: 2}},
		{"993 spend 1 . 2 .", api.Answer{Out: "1 ", Err: api.ErrSteps, Word: 5}},
		{"996 spend what", api.Answer{Err: api.ErrSteps, Word: 2}}, {"996 spend if", api.Answer{Err: api.ErrSteps, Word: 2}},
		{"996 spend :", api.Answer{Err: api.ErrSteps, Word: 2}}, {"996 spend 'what", api.Answer{Err: api.ErrSteps, Word: 2}},
		{"996 spend /", api.Answer{Err: api.ErrSteps, Word: 2}},
		{"995 spend what", api.Answer{Err: api.ErrWord, Word: 2}},
		{"994 spend : x 1 2 3 4 5 6 ; ' x", api.Answer{}},
		{"994 spend ' two 1 '", api.Answer{Err: api.ErrSteps, Word: 5}},
		{"995 spend variable v", api.Answer{}}, {"996 spend variable w", api.Answer{Err: api.ErrSteps, Word: 2}},
		{"996 spend variable", api.Answer{Err: api.ErrSteps, Word: 2}}, {"996 spend constant", api.Answer{Err: api.ErrSteps, Word: 2}},
		{"994 spend 3 constant k", api.Answer{}}, {"995 spend 3 constant c", api.Answer{Err: api.ErrSteps, Word: 3}},
		{"996 spend @", api.Answer{Err: api.ErrSteps, Word: 2}}, {"996 spend execute", api.Answer{Err: api.ErrSteps, Word: 2}},
		{"995 spend 1 @", api.Answer{Err: api.ErrSteps, Word: 3}}, {"995 spend 1 execute", api.Answer{Err: api.ErrSteps, Word: 3}},
		{"994 spend v @ drop", api.Answer{Err: api.ErrSteps, Word: 4}},
		{"991 spend 1 ' two execute", api.Answer{}}, {"992 spend 1 ' two execute", api.Answer{Err: api.ErrSteps, Word: 5}},
		{"993 spend 1 v !", api.Answer{}}, {"994 spend 2 v !", api.Answer{Err: api.ErrSteps, Word: 4}},
		{"996 spend : y what ;", api.Answer{Err: api.ErrSteps, Word: 2}},
		{"992 spend 1 two", api.Answer{}}, {"993 spend 1 two", api.Answer{Err: api.ErrSteps, Word: 3}},
		{"995 spend two", api.Answer{Err: api.ErrSteps, Word: 2}}, {"994 spend two", api.Answer{Err: api.ErrUnder, Word: 2}},
	} {
		check(t, m, c.line, c.want)
		if c.want.Err != api.OK {
			checkStacks(t, m, nil, nil)
		}
	}
	checkWords(t, m, "spend", "two", "x", "v", "k")
	checkSee(t, m, "v", "variable 1")
	check(t, with(t, ": f begin again ;"), "1 . f", api.Answer{Out: "1 ", Err: api.ErrSteps, Word: 2})
	check(t, with(t, ": f begin recurse again ;"), "f", api.Answer{Err: api.ErrDeep})
	m = with(t, ": spend 0 do loop ; : f recurse ;")
	check(t, m, "983 spend f", api.Answer{Err: api.ErrDeep, Word: 2})
	check(t, m, "984 spend f", api.Answer{Err: api.ErrSteps, Word: 2})
}

// TestStepsOfEachWord finds out how many steps a line takes, by how many are left behind it.
func TestStepsOfEachWord(t *testing.T) {
	const words = ": three 1 2 + ; : spend 0 do loop ;"
	for _, c := range []struct {
		line  string
		steps int
	}{
		{"", 0}, {"1", 1}, {": f ;", 1}, {": f 1 2 3 ; : g f ;", 2}, {"' three", 1}, {"three", 4},
		{": f ; f", 2}, {": f if then ; 0 f", 4}, {": f if then ; 1 f", 5},
		{": f if 1 else 2 3 then ; 1 f", 6}, {": f if 1 else 2 3 then ; 0 f", 7},
		{": f begin 1 until ; f", 5}, {": f begin dup while drop 0 repeat ; 1 f", 11}, {": f begin dup while drop 0 repeat ; 0 f", 6},
		{": f do loop ; 3 0 f", 8}, {": f do loop ; 0 0 f", 5}, {": f do i leave loop ; 9 0 f", 7},
		{": f exit 1 2 ; f", 3}, {": f begin exit again ; f", 4}, {": f dup if 1 - recurse then ; 1 f", 11},
		{": f three three ; f", 10},
		{"variable v", 1}, {"variable v v", 2}, {"variable v 5 v !", 4}, {"variable v v @", 3}, {"5 constant k k", 3},
		{"' three execute", 5}, {"variable v v execute", 3}, {"5 constant k ' k execute", 4},
		{": f ' three execute ; f", 7}, {": f ' three execute ; ' f execute", 8}, {"variable v : f v @ 1 + v ! ; f f", 16},
		{"marker m", 1}, {"marker m m", 2}, {"marker m ' m execute", 3}, {": f ; forget f", 2}, {"variable v marker m forget v", 3},
		{"marker m : f m m ; f", 5}, {"marker m : f m 1 if m then ; f", 8}, {"marker m : g 1 ; : f m g g ; f", 9},
	} {
		left := api.MaxSteps - c.steps
		check(t, with(t, words), c.line+" "+strconv.Itoa(left-4)+" spend", api.Answer{})
		check(t, with(t, words), c.line+" "+strconv.Itoa(left-3)+" spend",
			api.Answer{Err: api.ErrSteps, Word: len(strings.Fields(c.line)) + 1})
	}
}

func TestTokens(t *testing.T) {
	m := anvil.New()
	check(t, m, ": a ; : b ; ' a . ' b .", api.Answer{Out: "1000 1001 "})
	check(t, m, ": c what ;", api.Answer{Err: api.ErrWord, Word: 2})
	check(t, m, ": d", api.Answer{Err: api.ErrForm, Word: 1})
	check(t, m, ": 7 ;", api.Answer{Err: api.ErrName})
	check(t, m, ":", api.Answer{Err: api.ErrName})
	check(t, m, ": e else ;", api.Answer{Err: api.ErrForm, Word: 2})
	check(t, m, ": a ; ' a .", api.Answer{Out: "1005 "})
	checkWords(t, m, "a", "b", "a")
	check(t, m, strings.Repeat("1 ", api.MaxStack)+"' a", api.Answer{Err: api.ErrOver, Word: api.MaxStack})
	check(t, m, strings.Repeat("1 ", api.MaxStack)+"' what", api.Answer{Err: api.ErrWord, Word: api.MaxStack})
	check(t, m, strings.Repeat("1 ", api.MaxStack)+"' if", api.Answer{Err: api.ErrName, Word: api.MaxStack})
	check(t, m, ": t ' a ; : a ; t .", api.Answer{Out: "1005 "})
	checkSee(t, m, "t", ": 1005")
}

func TestFullMachineGivesNoToken(t *testing.T) {
	m := anvil.New()
	for range api.MaxWords - 1 {
		check(t, m, ": a ;", api.Answer{})
	}
	check(t, m, ": b what ;", api.Answer{Err: api.ErrWord, Word: 2})
	check(t, m, ": c ; ' c .", api.Answer{Out: "1040 "})
	check(t, m, ": d ;", api.Answer{Err: api.ErrFull})
	checkSee(t, m, "c", ":")
	checkUnseen(t, m, "b")
}

func TestSee(t *testing.T) {
	m := with(t, ": a ; : dup 1 ; variable v 9 constant k")
	for _, c := range []struct{ body, want string }{
		{"", ":"}, {"007 -0 -12 999999999999999999", ": 7 0 -12 999999999999999999"},
		{"a dup a drop", ": #1000 #1001 #1000 drop"}, {"' a ' dup", ": 1000 1001"},
		{"recurse exit", ": recurse exit"},
		{"+ - * / mod = < > and or xor not", ": + - * / mod = < > and or xor not"},
		{"drop swap over rot >r r> r@ depth . emit cr", ": drop swap over rot >r r> r@ depth . emit cr"},
		{"@ ! execute", ": @ ! execute"}, {"v @ k !", ": #1002 @ #1003 !"}, {"' v ' k", ": 1002 1003"},
		{"if else then begin while repeat begin until begin again do i leave loop", ": if else then begin while repeat begin until begin again do i leave loop"},
		{"\n1\t\t2 \r", ": 1 2"},
	} {
		check(t, m, ": f "+c.body+" ;", api.Answer{})
		checkSee(t, m, "f", c.want)
	}
	checkSee(t, m, "a", ":")
	for _, name := range []string{"", " ", "what", "swap", "if", ":", "7", "a ", "A", "#1000", "1000", "é", "\xff", strings.Repeat("x", 100000)} {
		checkUnseen(t, m, name)
	}
}

func TestSeeTellsTheNewest(t *testing.T) {
	m := with(t, ": f 1 ; : f f 2 ; : f f f 3 ;")
	checkSee(t, m, "f", ": #1001 #1001 3")
	check(t, m, ": f what", api.Answer{Err: api.ErrWord, Word: 2})
	checkSee(t, m, "f", ": #1001 #1001 3")
	check(t, m, "f . . . . .", api.Answer{Out: "3 2 1 2 1 "})
	checkWords(t, m, "f", "f", "f")
}

func TestWordsAreFresh(t *testing.T) {
	m := with(t, ": a ; : b ;")
	lists := [][]string{m.Words(), m.Words()}
	for _, list := range lists {
		list = list[:cap(list)]
		for i := range list {
			list[i] = "x"
		}
	}
	checkWords(t, m, "a", "b")
	check(t, m, ": c ;", api.Answer{})
	checkWords(t, m, "a", "b", "c")
	for _, list := range lists {
		if !slices.Equal(list, []string{"x", "x"}) {
			t.Errorf("P2: a list was changed: %q", list)
		}
	}
}

// TestFailingWithinDefinitions: the word of the line is told, and what was told ahead stays told.
func TestFailingWithinDefinitions(t *testing.T) {
	const words = ": zero 1 . 0 / ; : deep 2 . zero 3 . ; : two 1 2 ; : lots 0 do 65 emit loop ; : rest r> ;"
	for _, c := range []struct {
		line string
		want api.Answer
	}{
		{"5 zero 6 .", api.Answer{Out: "1 ", Err: api.ErrZero, Word: 1}},
		{"9 . 5 deep 6 .", api.Answer{Out: "9 2 1 ", Err: api.ErrZero, Word: 3}},
		{"zero", api.Answer{Out: "1 ", Err: api.ErrUnder}},
		{"301 lots", api.Answer{Out: strings.Repeat("A", 300), Err: api.ErrOut, Word: 1}},
		{ones(15) + "two", api.Answer{Err: api.ErrOver, Word: 15}},
		{"1 rest", api.Answer{Err: api.ErrUnder, Word: 1}},
		{"two two : f two what ;", api.Answer{Err: api.ErrWord, Word: 5}},
		{": f 5 . ; f : g f ; g what", api.Answer{Out: "5 5 ", Err: api.ErrWord, Word: 11}},
	} {
		m := with(t, words)
		before := m.Words()
		check(t, m, "8 7 >r drop", api.Answer{})
		check(t, m, "r> drop "+c.line, failed(c.want))
		checkStacks(t, m, nil, nil)
		if got := m.Words()[:len(before)]; !slices.Equal(got, before) {
			t.Errorf("P4: Words() = %q behind %q", got, c.line)
		}
		check(t, m, "two + .", api.Answer{Out: "3 "})
	}
}

// failed moves an answer two words to the right.
func failed(a api.Answer) api.Answer {
	a.Word += 2
	return a
}

func TestMaxOutWithinDefinitions(t *testing.T) {
	m := with(t, ": lots 0 do 65 emit loop ; : many 0 do 99 dup dup . . . loop ;")
	check(t, m, "100 lots", api.Answer{Out: strings.Repeat("A", 100)})
	check(t, m, "33 many cr cr cr", api.Answer{Out: strings.Repeat("99 ", 99) + "\n\n\n"})
	check(t, m, "34 many", api.Answer{Out: strings.Repeat("99 ", 100), Err: api.ErrOut, Word: 1})
	checkStacks(t, m, nil, nil)
}

func TestWhatWasMadeAheadOfAFailureStays(t *testing.T) {
	m := anvil.New()
	check(t, m, ": a 1 . ; a : b a 2 . ; b / : c ;", api.Answer{Out: "1 1 2 ", Err: api.ErrUnder, Word: 13})
	checkWords(t, m, "a", "b")
	check(t, m, "b", api.Answer{Out: "1 2 "})
	check(t, m, strings.Repeat(" ", api.MaxLine-4)+": c ;", api.Answer{Err: api.ErrLong})
	checkWords(t, m, "a", "b")
}
