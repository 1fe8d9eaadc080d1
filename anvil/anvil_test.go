package anvil_test

import (
	"math/rand"
	"slices"
	"strconv"
	"strings"
	"testing"

	"anvil/anvil"
	"anvil/api"
)

const leastInt = "65536 dup * 32768 65536 * *" // 1 << 63, wrapped round

func check(t *testing.T, m *anvil.Machine, line string, want api.Answer) {
	t.Helper()
	if got := m.Do(line); got != want {
		t.Errorf("P4: Do(%.100q) = %+v, want %+v", line, got, want)
	}
}

func checkStacks(t *testing.T, m *anvil.Machine, stack, aside []int) {
	t.Helper()
	if got := m.Stack(); !slices.Equal(got, stack) {
		t.Errorf("P5: Stack() = %v, want %v", got, stack)
	}
	if got := m.Aside(); !slices.Equal(got, aside) {
		t.Errorf("P5: Aside() = %v, want %v", got, aside)
	}
}

func TestNewIsEmpty(t *testing.T) {
	m := anvil.New()
	checkStacks(t, m, nil, nil)
	if got := m.Words(); len(got) != 0 {
		t.Errorf("P3: Words() = %q", got)
	}
	for _, name := range []string{"", "dup", "if", "7", "what"} {
		if text, err := m.See(name); text != "" || err != api.ErrWord {
			t.Errorf("P3: See(%q) = %q, %d", name, text, err)
		}
	}
}

func TestStackBehindALine(t *testing.T) {
	const least = -1 << 63
	for _, c := range []struct {
		line  string
		stack []int
	}{
		{"", nil},
		{" \t\r\n", nil},
		{"1\t2\n3\r4", []int{1, 2, 3, 4}},
		{"-0 -12 0012", []int{0, -12, 12}},
		{"999999999999999999 -999999999999999999", []int{999999999999999999, -999999999999999999}},
		{"9 4 + 9 4 - 9 4 *", []int{13, 5, 36}},
		{"7 2 / -7 2 / 7 -2 / -7 -2 /", []int{3, -3, -3, 3}},
		{"7 2 mod -7 2 mod 7 -2 mod -7 -2 mod", []int{1, -1, 1, -1}},
		{leastInt, []int{least}},
		{leastInt + " -1 /", []int{least}},
		{leastInt + " -1 mod", []int{0}},
		{leastInt + " -1 *", []int{least}},
		{leastInt + " 1 -", []int{-(least + 1)}},
		{leastInt + " 1 - 1 +", []int{least}},
		{"999999999999999999 dup *", []int{-7527149226598858751}},
		{"3 3 = 3 4 = 4 3 =", []int{-1, 0, 0}},
		{"3 3 < 3 4 < 4 3 < -4 3 <", []int{0, -1, 0, -1}},
		{"3 3 > 3 4 > 4 3 > -4 3 >", []int{0, 0, -1, 0}},
		{"6 3 and 6 3 or 6 3 xor -1 5 and -8 5 or -1 5 xor", []int{2, 7, 5, 5, -3, -6}},
		{"0 not 1 not -1 not 8 not", []int{-1, 0, 0, 0}},
		{"4 5 dup", []int{4, 5, 5}},
		{"4 5 drop", []int{4}},
		{"4 5 6 swap", []int{4, 6, 5}},
		{"4 5 6 over", []int{4, 5, 6, 5}},
		{"4 5 6 7 rot", []int{4, 6, 7, 5}},
		{"depth depth depth", []int{0, 1, 2}},
	} {
		m := anvil.New()
		check(t, m, c.line, api.Answer{})
		checkStacks(t, m, c.stack, nil)
	}
}

func TestAside(t *testing.T) {
	m := anvil.New()
	check(t, m, "1 2 3 >r >r", api.Answer{})
	checkStacks(t, m, []int{1}, []int{3, 2})
	check(t, m, "r@", api.Answer{})
	checkStacks(t, m, []int{1, 2}, []int{3, 2})
	check(t, m, "r> r>", api.Answer{})
	checkStacks(t, m, []int{1, 2, 2, 3}, nil)
}

func TestTelling(t *testing.T) {
	for _, c := range []struct{ line, out string }{
		{"2 3 + .", "5 "},
		{"0 . -0 . 007 . -12 .", "0 0 7 -12 "},
		{leastInt + " dup . 1 - .", "-9223372036854775808 9223372036854775807 "},
		{"32 emit 126 emit 65 emit", " ~A"},
		{"1 . cr cr 2 .", "1 \n\n2 "},
	} {
		m := anvil.New()
		check(t, m, c.line, api.Answer{Out: c.out})
		checkStacks(t, m, nil, nil)
		check(t, m, "", api.Answer{})
	}
}

// TestFailing begins each time with numbers on both stacks, which the failing line must lose.
func TestFailing(t *testing.T) {
	for _, c := range []struct {
		line string
		want api.Answer
	}{
		{"what", api.Answer{Err: api.ErrWord}},
		{"1 . what 2 .", api.Answer{Out: "1 ", Err: api.ErrWord, Word: 2}},
		{"Dup", api.Answer{Err: api.ErrWord}},
		{"dup\x00", api.Answer{Err: api.ErrWord}},
		{"1\v2", api.Answer{Err: api.ErrWord}},
		{"\u00a0", api.Answer{Err: api.ErrWord}},
		{"\xff", api.Answer{Err: api.ErrWord}},
		{"1000000000000000000", api.Answer{Err: api.ErrWord}},
		{"0000000000000000000", api.Answer{Err: api.ErrWord}},
		{"-1000000000000000000", api.Answer{Err: api.ErrWord}},
		{"+1", api.Answer{Err: api.ErrWord}},
		{"7 0 /", api.Answer{Err: api.ErrZero, Word: 2}},
		{"7 0 mod", api.Answer{Err: api.ErrZero, Word: 2}},
		{"31 emit", api.Answer{Err: api.ErrSign, Word: 1}},
		{"127 emit", api.Answer{Err: api.ErrSign, Word: 1}},
		{"-1 emit", api.Answer{Err: api.ErrSign, Word: 1}},
		{"321 emit", api.Answer{Err: api.ErrSign, Word: 1}},
	} {
		m := anvil.New()
		check(t, m, "5 6 >r", api.Answer{})
		check(t, m, c.line, c.want)
		checkStacks(t, m, nil, nil)
		check(t, m, "2 .", api.Answer{Out: "2 "})
	}
}

func TestTooFewNumbers(t *testing.T) {
	needs := map[string]int{"not": 1, "dup": 1, "drop": 1, ">r": 1, ".": 1, "emit": 1, "rot": 3, "@": 1, "!": 2, "execute": 1}
	for _, word := range []string{"+", "-", "*", "/", "mod", "=", "<", ">", "and", "or", "xor", "swap", "over"} {
		needs[word] = 2
	}
	for word, need := range needs {
		for n := range need {
			m := with(t, "9 >r 9 >r 9 >r")
			check(t, m, strings.Repeat("0 ", n)+word, api.Answer{Err: api.ErrUnder, Word: n})
			checkStacks(t, m, nil, nil)
		}
		check(t, anvil.New(), strings.Repeat("40 ", need)+word+" 1 drop", enough(word))
	}
	for _, word := range []string{"r>", "r@"} {
		check(t, anvil.New(), "1 2 3 "+word, api.Answer{Err: api.ErrUnder, Word: 3})
	}
}

// enough is what a word answers to numbers that all are 40.
func enough(word string) api.Answer {
	switch word {
	case ".":
		return api.Answer{Out: "40 "}
	case "emit":
		return api.Answer{Out: "("}
	case "@":
		return api.Answer{Err: api.ErrPlace, Word: 1}
	case "!":
		return api.Answer{Err: api.ErrPlace, Word: 2}
	case "execute":
		return api.Answer{Err: api.ErrGone, Word: 1}
	}
	return api.Answer{}
}

func TestMaxStack(t *testing.T) {
	full := strings.Repeat("1 ", api.MaxStack)
	for _, word := range []string{"1", "dup", "over", "depth", "r>", "r@"} {
		m := anvil.New()
		check(t, m, "9 >r "+full, api.Answer{})
		check(t, m, word, api.Answer{Err: api.ErrOver})
		checkStacks(t, m, nil, nil)
		check(t, anvil.New(), "9 >r "+full+"drop "+word, api.Answer{})
	}
	for _, word := range []string{"+", "swap", "rot", "not", "drop", "cr", ">r"} {
		if a := anvil.New().Do(full + word); a.Err != api.OK {
			t.Errorf("P4: %q on a full stack = %+v", word, a)
		}
	}
}

func TestMaxStackAside(t *testing.T) {
	full := strings.Repeat("1 >r ", api.MaxStack)
	m := anvil.New()
	check(t, m, full+"r@ r> drop >r", api.Answer{})
	check(t, m, "2 >r", api.Answer{Err: api.ErrOver, Word: 1})
	checkStacks(t, m, nil, nil)
	check(t, m, full+">r", api.Answer{Err: api.ErrUnder, Word: 2 * api.MaxStack})
}

func TestMaxOut(t *testing.T) {
	m := anvil.New()
	check(t, m, "99999999999999 "+strings.Repeat("dup . ", 20), api.Answer{Out: strings.Repeat("99999999999999 ", 20)})
	checkStacks(t, m, []int{99999999999999}, nil)
	told := strings.Repeat("99999999999999 ", 19)
	begin := strings.Repeat("dup . ", 19)
	check(t, m, begin+"999999999999999 .", api.Answer{Out: told, Err: api.ErrOut, Word: 39})
	checkStacks(t, m, nil, nil)
	for _, c := range []struct {
		last string
		err  api.Errno
		word int
	}{
		{"cr", api.ErrOut, 41}, {"65 emit", api.ErrOut, 42}, {"1 .", api.ErrOut, 42},
		{"31 emit", api.ErrSign, 42}, {"drop emit", api.ErrUnder, 42}, {"1 drop", api.OK, 0},
	} {
		check(t, anvil.New(), "99999999999999 "+strings.Repeat("dup . ", 20)+c.last,
			api.Answer{Out: told + "99999999999999 ", Err: c.err, Word: c.word})
	}
}

func TestMaxLine(t *testing.T) {
	m := anvil.New()
	check(t, m, "1 2 >r", api.Answer{})
	check(t, m, strings.Repeat(" ", api.MaxLine-1)+"7", api.Answer{})
	for _, line := range []string{
		strings.Repeat(" ", api.MaxLine) + "7",
		strings.Repeat("1 . ", api.MaxLine),
		strings.Repeat("\n", api.MaxLine+1),
		strings.Repeat("é", api.MaxLine/2) + "x",
	} {
		check(t, m, line, api.Answer{Err: api.ErrLong})
	}
	checkStacks(t, m, []int{1, 7}, []int{2})
	check(t, m, strings.Repeat("1 drop ", 71)+"5", api.Answer{})
}

func TestBoldWords(t *testing.T) {
	for _, word := range strings.Fields("; recurse if else then begin until again while repeat do loop i leave exit") {
		check(t, anvil.New(), "1 1 "+word, api.Answer{Err: api.ErrForm, Word: 2})
		check(t, anvil.New(), "1 1 "+word+" name", api.Answer{Err: api.ErrForm, Word: 2})
	}
	for _, word := range strings.Fields(": variable constant marker") {
		for _, name := range []string{"", "7", "-7", "é", "\x7f", "thirteenbytes", ";", "'", "if", "exit", ":"} {
			check(t, anvil.New(), "1 "+word+" "+name, api.Answer{Err: api.ErrName, Word: 1})
		}
	}
	for _, word := range []string{"forget", "'"} {
		for _, name := range []string{"", ";", "'", "if", "exit", "forget"} {
			check(t, anvil.New(), "1 "+word+" "+name, api.Answer{Err: api.ErrName, Word: 1})
		}
		for _, name := range []string{"name", "dup", "7", "é", "thirteenbytes"} {
			check(t, anvil.New(), "1 "+word+" "+name, api.Answer{Err: api.ErrWord, Word: 1})
		}
	}
}

func TestMachinesAreApart(t *testing.T) {
	a, b := anvil.New(), anvil.New()
	check(t, a, "1 2 >r", api.Answer{})
	checkStacks(t, b, nil, nil)
	check(t, b, "3 4 5 >r >r what", api.Answer{Err: api.ErrWord, Word: 5})
	checkStacks(t, a, []int{1}, []int{2})
}

func TestListsAreFresh(t *testing.T) {
	m := anvil.New()
	check(t, m, "1 2 3 4 5 6 >r >r >r", api.Answer{})
	lists := [][]int{m.Stack(), m.Aside(), m.Stack(), m.Aside()}
	for i, list := range lists {
		scribble(list, 100+i)
	}
	checkStacks(t, m, []int{1, 2, 3}, []int{6, 5, 4})
	check(t, m, "drop 7 8 r> drop 9 >r", api.Answer{})
	checkStacks(t, m, []int{1, 2, 7, 8}, []int{6, 5, 9})
	for i, list := range lists {
		for _, n := range list[:cap(list)] {
			if n != 100+i {
				t.Errorf("P2: list %d was changed: %v", i, list[:cap(list)])
			}
		}
	}
}

// scribble writes into a list and its spare room.
func scribble(list []int, n int) {
	list = list[:cap(list)]
	for i := range list {
		list[i] = n
	}
}

func TestEmptiedStacksAreFresh(t *testing.T) {
	m := anvil.New()
	check(t, m, "1 2 3 drop drop drop", api.Answer{})
	scribble(m.Stack(), 9)
	kept := m.Stack()
	check(t, m, "4 5", api.Answer{})
	scribble(kept, 9)
	checkStacks(t, m, []int{4, 5}, nil)
}

// TestAllTexts holds what is true of every line against lines that are put together blindly; every other machine meets no word that forgets.
func TestAllTexts(t *testing.T) {
	pieces := strings.Fields("+ - * / mod = < > and or xor not dup drop swap over rot >r r> r@ depth . emit cr @ ! execute" +
		" : ; variable constant ' recurse if else then begin until again while repeat do loop i leave exit" +
		" 0 1 2 3 -1 72 999999999999999999 1000 1001 1002 1010 variable variable constant constant @ ! execute 1 2 3 4 5 6 7 8 9 1 2 3 4 5 6 7 8 9 x \xff é -" +
		" : : : : : : ; ; ; ; ; ; ; ; ; a b c a b c a b c a b c if then if then begin until do loop do loop i recurse")
	forgetting := append(strings.Fields("marker marker marker marker forget forget"), pieces...)
	source := rand.New(rand.NewSource(1))
	m := anvil.New()
	for turn := range 60000 {
		if turn%400 == 0 {
			m = anvil.New()
		}
		forgets := turn/400%2 == 1
		from := pieces
		if forgets {
			from = forgetting
		}
		var line strings.Builder
		for range source.Intn(60) {
			if source.Intn(40) == 0 {
				line.WriteByte(byte(source.Intn(256)))
			}
			line.WriteString(from[source.Intn(len(from))])
			line.WriteByte(" \t\n\r"[source.Intn(4)])
		}
		checkAnyLine(t, m, line.String(), forgets)
	}
}

// checkAnyLine does a line; forgets says whether it may make words to be forgotten.
func checkAnyLine(t *testing.T, m *anvil.Machine, line string, forgets bool) {
	t.Helper()
	names := m.Words()
	a := m.Do(line)
	stack, aside := m.Stack(), m.Aside()
	if len(a.Out) > api.MaxOut || len(stack) > api.MaxStack || len(aside) > api.MaxStack {
		t.Fatalf("P4: Do(%q) goes beyond the limits: %+v, %v, %v", line, a, stack, aside)
	}
	if a.Err == api.OK && a.Word != 0 || a.Word < 0 || a.Word > len(line)/2 {
		t.Fatalf("P4: Do(%q) names a word that there is not: %+v", line, a)
	}
	if a.Err != api.OK && a.Err != api.ErrLong && len(stack)+len(aside) != 0 {
		t.Fatalf("P4: Do(%q) = %+v leaves %v, %v", line, a, stack, aside)
	}
	if !forgets {
		checkOnlyMore(t, m, names, line)
	}
	checkAnyWords(t, m, line)
}

func checkOnlyMore(t *testing.T, m *anvil.Machine, before []string, line string) {
	t.Helper()
	names := m.Words()
	if len(names) < len(before) || !slices.Equal(names[:len(before)], before) {
		t.Fatalf("P5: Words() = %q behind %q, was %q", names, line, before)
	}
}

func checkAnyWords(t *testing.T, m *anvil.Machine, line string) {
	t.Helper()
	names := m.Words()
	if len(names) > api.MaxWords {
		t.Fatalf("P5: Words() = %q behind %q", names, line)
	}
	for _, name := range names {
		text, err := m.See(name)
		if err != api.OK || !isSeen(text) {
			t.Fatalf("P6: See(%q) = %q, %d behind %q", name, text, err, line)
		}
	}
}

// isSeen says whether a text may be what See tells of some word of one's own.
func isSeen(text string) bool {
	words := strings.Split(text, " ")
	if words[0] == ":" {
		return len(words) <= 1+api.MaxBody
	}
	if text == "marker" {
		return true
	}
	if words[0] != "variable" && words[0] != "constant" || len(words) != 2 {
		return false
	}
	n, err := strconv.Atoi(words[1])
	return err == nil && strconv.Itoa(n) == words[1]
}
