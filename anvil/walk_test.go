package anvil_test

import (
	"math/rand"
	"slices"
	"strconv"
	"strings"
	"testing"

	"anvil/api"
)

// part is a body as a tree: a word, or a part that opens and shuts. A walker does it by its shape,
// without places to go on at, so that it can be held against what a machine does.
type part struct {
	open   string // a word; or if, begin, do
	shut   string // until, again, repeat, loop, then
	first  []part
	second []part // behind an else or a while
	both   bool   // whether there is a second one
}

func (p part) words() []string {
	if p.shut == "" {
		return []string{p.open}
	}
	words := append([]string{p.open}, wordsOf(p.first)...)
	if p.both {
		words = append(append(words, p.middle()), wordsOf(p.second)...)
	}
	return append(words, p.shut)
}

func (p part) middle() string {
	if p.open == "if" {
		return "else"
	}
	return "while"
}

func wordsOf(parts []part) []string {
	var words []string
	for _, p := range parts {
		words = append(words, p.words()...)
	}
	return words
}

// randomParts makes up parts; loops says whether they stand within a loop.
func randomParts(source *rand.Rand, deep int, loops bool) []part {
	var parts []part
	for range source.Intn(5) {
		if source.Intn(4) == 0 {
			parts = append(parts, randomReach(source)...)
		} else {
			parts = append(parts, randomPart(source, deep, loops))
		}
	}
	return parts
}

// randomReach makes up a token, and what comes to its word.
func randomReach(source *rand.Rand) []part {
	tokens := strings.Fields("v v v w w w v v v w w w v v v w w w k 999 1000 1001 1002 1003 1004 1005 1006")
	words := strings.Fields("@ @ ! ! execute")
	return []part{{open: tokens[source.Intn(len(tokens))]}, {open: words[source.Intn(len(words))]}}
}

func randomPart(source *rand.Rand, deep int, loops bool) part {
	if deep == 0 || source.Intn(3) > 0 {
		return part{open: randomWord(source, loops)}
	}
	p := []part{
		{open: "if", shut: "then"}, {open: "if", shut: "then", both: true}, {open: "begin", shut: "until"},
		{open: "begin", shut: "again"}, {open: "begin", shut: "repeat", both: true}, {open: "do", shut: "loop"}, {open: "do", shut: "loop"},
	}[source.Intn(7)]
	p.first = randomParts(source, deep-1, loops || p.open == "do")
	if p.both {
		p.second = randomParts(source, deep-1, loops)
	}
	return p
}

func randomWord(source *rand.Rand, loops bool) string {
	words := strings.Fields("0 1 2 3 0 1 2 3 0 1 2 3 5 dup dup dup over drop . + - not < exit recurse m n i leave i i leave")
	if !loops {
		words = words[:len(words)-5]
	}
	return words[source.Intn(len(words))]
}

// The words that a walker knows of beside its body, and their tokens from 1000 on; the body's own is the last one.
const (
	walkerWords = "variable v marker m variable w 7 constant k marker n"
	walkerNames = "v m w k n f"
)

// walker does a tree as the document says, on a stack of its own.
type walker struct {
	body  []part
	there int // how many words are not forgotten
	v, w  int
	stack []int
	out   string
	steps int
	depth int
	err   api.Errno
}

// ending: why parts were not done to their end.
type ending int

const (
	atEnd ending = iota
	byLeave
	byExit
	byError
)

func (w *walker) fail(err api.Errno) ending {
	w.err = err
	return byError
}

func (w *walker) step() bool {
	w.steps++
	if w.steps > api.MaxSteps {
		w.err = api.ErrSteps
		return false
	}
	return true
}

func (w *walker) pop(n int) ([]int, bool) {
	if len(w.stack) < n {
		w.err = api.ErrUnder
		return nil, false
	}
	taken := append([]int{}, w.stack[len(w.stack)-n:]...)
	w.stack = w.stack[:len(w.stack)-n]
	return taken, true
}

func (w *walker) push(numbers ...int) ending {
	if len(w.stack)+len(numbers) > api.MaxStack {
		return w.fail(api.ErrOver)
	}
	w.stack = append(w.stack, numbers...)
	return atEnd
}

func (w *walker) call() ending {
	if w.depth == api.MaxDepth {
		return w.fail(api.ErrDeep)
	}
	w.depth++
	defer func() { w.depth-- }()
	if e := w.walk(w.body, 0); e == byError {
		return e
	}
	return atEnd
}

func (w *walker) walk(parts []part, count int) ending {
	for _, p := range parts {
		if e := w.part(p, count); e != atEnd {
			return e
		}
	}
	return atEnd
}

func (w *walker) part(p part, count int) ending {
	if !w.step() {
		return byError
	}
	switch {
	case p.shut == "":
		return w.word(p.open, count)
	case p.open == "if":
		return w.choice(p, count)
	case p.open == "do":
		return w.counted(p)
	default:
		return w.repeated(p, count)
	}
}

// choice: the end of the first part is its else, or its then; that of the second one is the then: a step each.
func (w *walker) choice(p part, count int) ending {
	taken, ok := w.pop(1)
	if !ok {
		return byError
	}
	chosen := p.first
	if taken[0] == 0 {
		if !p.both {
			return atEnd
		}
		chosen = p.second
	}
	if e := w.walk(chosen, count); e != atEnd {
		return e
	}
	if !w.step() {
		return byError
	}
	return atEnd
}

func (w *walker) repeated(p part, count int) ending {
	for {
		if e := w.walk(p.first, count); e != atEnd {
			return e
		}
		if !w.step() {
			return byError
		}
		if p.shut == "again" {
			continue
		}
		taken, ok := w.pop(1)
		if !ok {
			return byError
		}
		if (taken[0] != 0) == (p.shut == "until") {
			return atEnd
		}
		if p.shut == "until" {
			continue
		}
		if e := w.walk(p.second, count); e != atEnd {
			return e
		}
		if !w.step() {
			return byError
		}
	}
}

func (w *walker) counted(p part) ending {
	taken, ok := w.pop(2)
	if !ok {
		return byError
	}
	for count := taken[1]; count < taken[0]; count++ {
		switch e := w.walk(p.first, count); e {
		case atEnd:
		case byLeave:
			return atEnd
		default:
			return e
		}
		if !w.step() {
			return byError
		}
	}
	return atEnd
}

func (w *walker) word(name string, count int) ending {
	switch name {
	case "exit":
		return byExit
	case "leave":
		return byLeave
	case "i":
		return w.push(count)
	case "recurse":
		return w.call()
	case "v":
		return w.push(1000)
	case "w":
		return w.push(1002)
	case "k":
		return w.push(7)
	case "m":
		w.there = min(w.there, 1)
		return atEnd
	case "n":
		w.there = min(w.there, 4)
		return atEnd
	case "@", "!", "execute":
		return w.reach(name)
	}
	if n, err := strconv.Atoi(name); err == nil {
		return w.push(n)
	}
	return w.primitive(name)
}

func (w *walker) reach(name string) ending {
	if name == "!" && len(w.stack) < 2 {
		return w.fail(api.ErrUnder)
	}
	taken, ok := w.pop(1)
	if !ok {
		return byError
	}
	if name == "execute" {
		return w.execute(taken[0])
	}
	place := &w.v
	if taken[0] == 1002 && w.there > 2 {
		place = &w.w
	} else if taken[0] != 1000 {
		return w.fail(api.ErrPlace)
	}
	if name == "@" {
		return w.push(*place)
	}
	number, _ := w.pop(1)
	*place = number[0]
	return atEnd
}

func (w *walker) execute(token int) ending {
	names := strings.Fields(walkerNames)[:w.there]
	if token < 1000 || token >= 1000+len(names) {
		return w.fail(api.ErrGone)
	}
	if name := names[token-1000]; name != "f" {
		return w.word(name, 0)
	}
	return w.call()
}

func (w *walker) primitive(name string) ending {
	needs := map[string]int{"dup": 1, "drop": 1, ".": 1, "not": 1}[name]
	if needs == 0 {
		needs = 2
	}
	taken, ok := w.pop(needs)
	if !ok {
		return byError
	}
	a, b := taken[0], taken[len(taken)-1]
	switch name {
	case "dup":
		return w.push(a, a)
	case "over":
		return w.push(a, b, a)
	case "+":
		return w.push(a + b)
	case "-":
		return w.push(a - b)
	case "not":
		return w.push(truth(a == 0))
	case "<":
		return w.push(truth(a < b))
	case ".":
		return w.tell(strconv.Itoa(a) + " ")
	}
	return atEnd // drop
}

func (w *walker) tell(text string) ending {
	if len(w.out)+len(text) > api.MaxOut {
		return w.fail(api.ErrOut)
	}
	w.out += text
	return atEnd
}

func truth(holds bool) int {
	if holds {
		return -1
	}
	return 0
}

// seenOf is what See tells of a body.
func seenOf(words []string) string {
	text := ":"
	for _, word := range words {
		if at := slices.Index(strings.Fields(walkerNames), word); at >= 0 {
			word = "#" + strconv.Itoa(1000+at)
		}
		text += " " + word
	}
	return text
}

func TestControlsAgainstAWalker(t *testing.T) {
	source := rand.New(rand.NewSource(7))
	ends, left := map[api.Errno]int{}, map[int]int{}
	for range 60000 {
		body := randomParts(source, 4, false)
		words := wordsOf(body)
		if len(words) > api.MaxBody {
			continue
		}
		text := strings.Join(words, " ")
		m := with(t, walkerWords)
		check(t, m, ": f "+text+" ;", api.Answer{})
		checkSee(t, m, "f", seenOf(words))
		w := walker{body: body, there: 6, stack: []int{2, 1, 0, 3, 0, 4, 1}, steps: 8}
		want := api.Answer{}
		if w.call() == byError {
			want = api.Answer{Err: w.err, Word: 7}
			w.stack = nil
		}
		want.Out = w.out
		check(t, m, "2 1 0 3 0 4 1 f", want)
		checkStacks(t, m, w.stack, nil)
		checkWords(t, m, strings.Fields(walkerNames)[:w.there]...)
		checkSee(t, m, "v", "variable "+strconv.Itoa(w.v))
		if w.there > 2 {
			checkSee(t, m, "w", "variable "+strconv.Itoa(w.w))
		}
		if t.Failed() {
			t.Fatalf("the body was %q", text)
		}
		ends[want.Err]++
		left[w.there]++
	}
	for _, err := range []api.Errno{api.OK, api.ErrUnder, api.ErrOver, api.ErrPlace, api.ErrGone, api.ErrDeep, api.ErrSteps} {
		if ends[err] < 100 {
			t.Errorf("too few lines ended with %d: %v", err, ends)
		}
	}
	for _, there := range []int{1, 4, 6} {
		if left[there] < 100 {
			t.Errorf("too few lines left %d words: %v", there, left)
		}
	}
}
