package anvil_test

import (
	"strconv"
	"strings"
	"testing"

	"anvil/anvil"
	"anvil/api"
)

func TestExecute(t *testing.T) {
	for _, c := range []struct {
		line  string
		out   string
		stack []int
	}{
		{": hi 72 emit ; ' hi execute", "H", nil},
		{": hi 72 emit ; 1000 execute 1000 execute", "HH", nil},
		{"variable v 5 v ! ' v execute v execute", "", []int{1000, 1000}},
		{"7 constant k ' k execute", "", []int{7}},
		{"variable v : hi 72 emit ; ' hi constant k k execute", "H", nil},
		{"variable v : hi 72 emit ; ' hi v ! v @ execute", "H", nil},
		{": sq dup * ; 3 4 ' sq execute", "", []int{3, 16}},
		{": f . depth ; 7 8 ' f execute", "8 ", []int{7, 1}},
		{": f >r ; 7 ' f execute r>", "", []int{7}},
		{": none ; ' none execute 5", "", []int{5}},
		{": a 1 . ; : a 2 . ; ' a execute 1000 execute", "2 1 ", nil},
		{": hi 72 emit ; : g ' hi execute ; : hi 73 emit ; g ' hi execute ' g execute", "HIH", nil},
		{": hi 72 emit ; : g execute ; ' hi g ' hi ' g execute", "HH", nil},
		{": twice dup >r execute r> execute ; : one 1 . ; ' one twice", "1 1 ", nil},
		{": g 1001 execute ; : hi 72 emit ; g", "H", nil},
		{": in 2 0 do i . loop ; : f 2 0 do ' in execute i . loop ; f", "0 1 0 0 1 1 ", nil},
		{": out exit ; : f ' out execute 1 . ; f", "1 ", nil},
		{": f dup . dup if 1 - 1000 execute then ; 3 f", "3 2 1 0 ", []int{0}},
		{"variable me : f dup . dup if 1 - me @ execute then ; ' f me ! 2 f", "2 1 0 ", []int{0}},
		{": odd dup if 1 - 1001 execute else drop 79 emit then ; : even dup if 1 - odd else drop 69 emit then ; 5 even 4 even", "OE", nil},
		{": execute 5 ; execute", "", []int{5}},
		{": f 1 . ; : g ' f execute ; : execute 2 . ; g execute", "1 2 ", nil},
	} {
		m := anvil.New()
		check(t, m, c.line, api.Answer{Out: c.out})
		checkStacks(t, m, c.stack, nil)
	}
}

func TestExecuteOfNoWord(t *testing.T) {
	for _, token := range []string{"0", "7", "-9", "-1000", "999", "1004", "999999999999999999", "-999999999999999999", "1000 -1 *"} {
		m := with(t, "variable v 1 constant k : f ;")
		check(t, m, "2 >r", api.Answer{})
		word := len(strings.Fields(token))
		check(t, m, token+" execute", api.Answer{Err: api.ErrGone, Word: word})
		checkStacks(t, m, nil, nil)
		checkWords(t, m, "v", "k", "f")
		check(t, m, ": g "+token+" execute 1 . ; 3 . g", api.Answer{Out: "3 ", Err: api.ErrGone, Word: word + 8})
	}
	check(t, with(t, "variable v"), "1001 execute", api.Answer{Err: api.ErrGone, Word: 1})
	check(t, anvil.New(), "execute", api.Answer{Err: api.ErrUnder})
	check(t, anvil.New(), "1000 execute", api.Answer{Err: api.ErrGone, Word: 1})
	check(t, with(t, ": f execute ;"), "3 . f", api.Answer{Out: "3 ", Err: api.ErrUnder, Word: 2})
	check(t, with(t, ": f ;"), ones(api.MaxStack-1)+"7 execute", api.Answer{Err: api.ErrGone, Word: api.MaxStack})
}

func TestExecuteOfAWordThatWasNotEnded(t *testing.T) {
	m := anvil.New()
	check(t, m, ": f 1 . what ;", api.Answer{Err: api.ErrWord, Word: 4})
	check(t, m, "1000 execute", api.Answer{Err: api.ErrGone, Word: 1})
	check(t, m, "1000 @", api.Answer{Err: api.ErrPlace, Word: 1})
	check(t, m, ": f", api.Answer{Err: api.ErrForm, Word: 1})
	check(t, m, ": g 2 . ; 1001 execute", api.Answer{Err: api.ErrGone, Word: 6})
	check(t, m, "1002 execute", api.Answer{Out: "2 "})
	checkWords(t, m, "g")
	check(t, m, "constant k", api.Answer{Err: api.ErrUnder})
	check(t, m, "1003 execute", api.Answer{Err: api.ErrGone, Word: 1})
	check(t, m, "variable v 1003 execute .", api.Answer{Out: "1003 "})
}

// TestExecuteFails: the word of the line that led to the failing one is told.
func TestExecuteFails(t *testing.T) {
	full := ones(api.MaxStack - 1)
	const words = ": zero 1 . 0 / ; : two 1 2 ; : lots 301 0 do 65 emit loop ; : ever begin again ; : go execute ; variable v 5 constant k"
	for _, c := range []struct {
		line string
		want api.Answer
	}{
		{"5 ' zero execute 2 .", api.Answer{Out: "1 ", Err: api.ErrZero, Word: 3}},
		{"' zero execute", api.Answer{Out: "1 ", Err: api.ErrUnder, Word: 2}},
		{"5 ' zero go 2 .", api.Answer{Out: "1 ", Err: api.ErrZero, Word: 3}},
		{"5 ' zero ' go execute", api.Answer{Out: "1 ", Err: api.ErrZero, Word: 5}},
		{full + "' two execute", api.Answer{Err: api.ErrOver, Word: 17}},
		{"' lots execute", api.Answer{Out: strings.Repeat("A", api.MaxOut), Err: api.ErrOut, Word: 2}},
		{"' ever execute", api.Answer{Err: api.ErrSteps, Word: 2}},
		{"' go execute", api.Answer{Err: api.ErrUnder, Word: 2}},
		{"7 go", api.Answer{Err: api.ErrGone, Word: 1}},
		{"7 ' go execute", api.Answer{Err: api.ErrGone, Word: 3}},
	} {
		m := with(t, words)
		check(t, m, "3 >r", api.Answer{})
		check(t, m, c.line, c.want)
		checkStacks(t, m, nil, nil)
		checkWords(t, m, "zero", "two", "lots", "ever", "go", "v", "k")
		check(t, m, "two . .", api.Answer{Out: "2 1 "})
	}
	for _, name := range []string{"v", "k"} {
		check(t, with(t, words), full+"' "+name+" execute", api.Answer{}) // the token makes room
	}
}

func TestDepthOfExecute(t *testing.T) {
	m := with(t, "variable v : f dup if 1 - 1001 execute then ;")
	check(t, m, "11 f . 11 ' f execute .", api.Answer{Out: "0 0 "})
	check(t, m, "12 f", api.Answer{Err: api.ErrDeep, Word: 1})
	check(t, m, "12 ' f execute", api.Answer{Err: api.ErrDeep, Word: 3})
	check(t, m, "1 . 1001 f", api.Answer{Out: "1 ", Err: api.ErrDeep, Word: 3})

	m = with(t, ": leaf 1 . ; variable v : f dup if 1 - recurse else drop v @ execute then ;")
	check(t, m, "' leaf v ! 10 f", api.Answer{Out: "1 "})
	check(t, m, "11 f", api.Answer{Err: api.ErrDeep, Word: 1})
	check(t, m, "v v ! 11 f .", api.Answer{Out: "1001 "}) // a variable is no definition
	check(t, m, "7 v ! 11 f", api.Answer{Err: api.ErrGone, Word: 4})

	m = with(t, ": d1 1 . ;")
	for n := 2; n <= api.MaxDepth+1; n++ {
		check(t, m, ": d"+strconv.Itoa(n)+" ' d"+strconv.Itoa(n-1)+" execute ;", api.Answer{})
	}
	check(t, m, "d12 ' d12 execute", api.Answer{Out: "1 1 "})
	check(t, m, "d12 d13", api.Answer{Out: "1 ", Err: api.ErrDeep, Word: 1})
	check(t, m, "' d13 execute", api.Answer{Err: api.ErrDeep, Word: 2})
}

func TestExecuteEnds(t *testing.T) {
	check(t, anvil.New(), ": f 1000 execute ; f", api.Answer{Err: api.ErrDeep, Word: 5})
	check(t, anvil.New(), ": f begin 1000 execute again ; 1000 execute", api.Answer{Err: api.ErrDeep, Word: 8})
	check(t, anvil.New(), ": f 1001 execute ; : g 1000 execute ; g", api.Answer{Err: api.ErrDeep, Word: 10})
	check(t, anvil.New(), "variable v : f begin v execute drop again ; f", api.Answer{Err: api.ErrSteps, Word: 10})
}
