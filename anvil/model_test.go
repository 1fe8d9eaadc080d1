package anvil_test

import (
	"maps"
	"math/rand"
	"slices"
	"strconv"
	"strings"
	"testing"

	"anvil/anvil"
	"anvil/api"
)

// model does lines that make and forget words, without the controls, as the document says.
// Its words are kept by their tokens alone, so that forgetting is done in another way than a machine does it.
type model struct {
	there map[int]*modelWord
	begun int
	stack []int
	line  []string
	out   string
	steps int
	depth int

	forgetful int // how often a definition made words to be forgotten
}

type modelWord struct {
	name, kind string
	number     int
	body       []modelItem
}

// modelItem is a word of a body: one of one's own if it has a token, else what its text is.
type modelItem struct {
	text  string
	token int
	own   *modelWord // what the token meant when it was read
}

func (m *model) tokens() []int { return slices.Sorted(maps.Keys(m.there)) }

func (m *model) newest(name string) int {
	found := 0
	for token, w := range m.there {
		if w.name == name {
			found = max(found, token)
		}
	}
	return found
}

func (m *model) forget(token int) {
	if m.depth > 0 && m.there[token] != nil {
		m.forgetful++
	}
	maps.DeleteFunc(m.there, func(other int, _ *modelWord) bool { return other >= token })
}

func (m *model) push(n int) api.Errno {
	if len(m.stack) == api.MaxStack {
		return api.ErrOver
	}
	m.stack = append(m.stack, n)
	return api.OK
}

func (m *model) pop() int {
	n := m.stack[len(m.stack)-1]
	m.stack = m.stack[:len(m.stack)-1]
	return n
}

func (m *model) step() api.Errno {
	m.steps++
	if m.steps > api.MaxSteps {
		return api.ErrSteps
	}
	return api.OK
}

// do does a line that has only names, numbers and the words that are known here.
func (m *model) do(line string) api.Answer {
	m.line, m.out, m.steps = strings.Fields(line), "", 0
	for at := 0; at < len(m.line); {
		err := m.step()
		used, fails := 1, 0
		if err == api.OK {
			used, fails, err = m.lineWord(at)
		}
		if err != api.OK {
			m.stack, m.depth = nil, 0
			return api.Answer{Out: m.out, Err: err, Word: at + fails}
		}
		at += used
	}
	return api.Answer{Out: m.out}
}

// lineWord tells how many words of the line were used, or which of them fails.
func (m *model) lineWord(at int) (used, fails int, err api.Errno) {
	switch text := m.line[at]; text {
	case ":":
		return m.define(at)
	case "variable", "constant", "marker":
		if err := m.newName(at); err != api.OK {
			return 0, 0, err
		}
		w := &modelWord{name: m.line[at+1], kind: text}
		if text == "constant" {
			if len(m.stack) == 0 {
				return 0, 0, api.ErrUnder
			}
			w.number = m.pop()
		}
		m.there[1000+m.begun] = w
		m.begun++
		return 2, 0, api.OK
	case "forget", "'":
		if at+1 == len(m.line) {
			return 0, 0, api.ErrName
		}
		token := m.newest(m.line[at+1])
		if token == 0 {
			return 0, 0, api.ErrWord
		}
		if text == "'" {
			return 2, 0, m.push(token)
		}
		m.forget(token)
		return 2, 0, api.OK
	default:
		item, err := m.read(text)
		if err == api.OK {
			err = m.item(item, nil)
		}
		return 1, 0, err
	}
}

func (m *model) newName(at int) api.Errno {
	if at+1 == len(m.line) {
		return api.ErrName
	}
	if _, err := strconv.Atoi(m.line[at+1]); err == nil {
		return api.ErrName
	}
	if len(m.there) == api.MaxWords {
		return api.ErrFull
	}
	return api.OK
}

// read gives what a word means; the lines have none of the bold words but where they are asked for by name.
func (m *model) read(text string) (modelItem, api.Errno) {
	if token := m.newest(text); token != 0 {
		return modelItem{token: token, own: m.there[token]}, api.OK
	}
	_, err := strconv.Atoi(text)
	if err != nil && !strings.Contains(" dup drop . @ ! execute ", " "+text+" ") {
		return modelItem{}, api.ErrWord
	}
	return modelItem{text: text}, api.OK
}

func (m *model) define(at int) (used, fails int, err api.Errno) {
	if err := m.newName(at); err != api.OK {
		return 0, 0, err
	}
	token := 1000 + m.begun
	m.begun++
	w := &modelWord{name: m.line[at+1], kind: ":"}
	for next := at + 2; next < len(m.line); next++ {
		text := m.line[next]
		if text == ";" {
			m.there[token] = w
			return next - at + 1, 0, api.OK
		}
		item, err := m.readInBody(next)
		if err == api.OK && len(w.body) == api.MaxBody {
			err = api.ErrFull
		}
		if err != api.OK {
			return 0, next - at, err
		}
		w.body = append(w.body, item)
		if text == "'" {
			next++
		}
	}
	return 0, len(m.line) - 1 - at, api.ErrForm
}

func (m *model) readInBody(at int) (modelItem, api.Errno) {
	switch m.line[at] {
	case ":", "variable", "constant", "marker", "forget":
		return modelItem{}, api.ErrForm
	case "recurse":
		return modelItem{text: "recurse"}, api.OK
	case "'":
		if at+1 == len(m.line) || m.line[at+1] == ";" {
			return modelItem{}, api.ErrName
		}
		token := m.newest(m.line[at+1])
		if token == 0 {
			return modelItem{}, api.ErrWord
		}
		return modelItem{text: strconv.Itoa(token)}, api.OK
	}
	return m.read(m.line[at])
}

// item does a word of the line or of a body; within is the definition in which it stands.
func (m *model) item(i modelItem, within *modelWord) api.Errno {
	if i.token != 0 {
		return m.own(i.token, i.own)
	}
	if n, err := strconv.Atoi(i.text); err == nil {
		return m.push(n)
	}
	if i.text == "recurse" {
		return m.call(within)
	}
	needs := 1
	if i.text == "!" {
		needs = 2
	}
	if len(m.stack) < needs {
		return api.ErrUnder
	}
	return m.primitive(i.text)
}

func (m *model) own(token int, w *modelWord) api.Errno {
	switch w.kind {
	case "variable":
		return m.push(token)
	case "constant":
		return m.push(w.number)
	case "marker":
		m.forget(token)
		return api.OK
	}
	return m.call(w)
}

func (m *model) call(w *modelWord) api.Errno {
	if m.depth == api.MaxDepth {
		return api.ErrDeep
	}
	m.depth++
	for _, i := range w.body {
		if err := m.step(); err != api.OK {
			return err
		}
		if err := m.item(i, w); err != api.OK {
			return err
		}
	}
	m.depth--
	return api.OK
}

func (m *model) primitive(text string) api.Errno {
	switch text {
	case "dup":
		return m.push(m.stack[len(m.stack)-1])
	case "drop":
		m.pop()
		return api.OK
	case ".":
		told := strconv.Itoa(m.pop()) + " "
		if len(m.out)+len(told) > api.MaxOut {
			return api.ErrOut
		}
		m.out += told
		return api.OK
	}
	token := m.pop()
	w := m.there[token]
	if text == "execute" {
		if w == nil {
			return api.ErrGone
		}
		return m.own(token, w)
	}
	if w == nil || w.kind != "variable" {
		return api.ErrPlace
	}
	if text == "@" {
		return m.push(w.number)
	}
	w.number = m.pop()
	return api.OK
}

func (m *model) see(token int) string {
	w := m.there[token]
	switch w.kind {
	case "variable", "constant":
		return w.kind + " " + strconv.Itoa(w.number)
	case "marker":
		return "marker"
	}
	text := ":"
	for _, i := range w.body {
		if i.token != 0 {
			text += " #" + strconv.Itoa(i.token)
		} else {
			text += " " + i.text
		}
	}
	return text
}

// checkModel holds all that a machine tells of itself against a model.
func checkModel(t *testing.T, m *anvil.Machine, want *model) {
	t.Helper()
	checkStacks(t, m, want.stack, nil)
	var names []string
	for _, token := range want.tokens() {
		names = append(names, want.there[token].name)
	}
	checkWords(t, m, names...)
	for _, name := range strings.Fields("a b c d m n dup") {
		if token := want.newest(name); token != 0 {
			checkSee(t, m, name, want.see(token))
		} else {
			checkUnseen(t, m, name)
		}
	}
}

// randomName is mostly one that may be made; randomToken mostly one of the last that were given.
func randomName(source *rand.Rand) string {
	names := strings.Fields("a a a b b b c c d d m m n dup 7")
	return names[source.Intn(len(names))]
}

func randomToken(source *rand.Rand, m *model) string {
	return strconv.Itoa(1000 + max(0, m.begun-source.Intn(12)+1))
}

func randomPiece(source *rand.Rand, m *model) string {
	switch source.Intn(18) {
	case 0:
		return "' " + randomName(source)
	case 1, 2:
		return "' " + randomName(source) + " execute"
	case 3:
		return randomToken(source, m) + " execute"
	case 4:
		return randomName(source) + " @"
	case 5:
		return randomToken(source, m) + " @ ."
	case 6:
		return "5 " + randomName(source) + " !"
	case 7:
		return "6 " + randomToken(source, m) + " !"
	case 8:
		return "."
	case 10:
		return []string{"m", "n"}[source.Intn(2)]
	case 9:
		return []string{"dup", "drop", "drop", "1 2", "1 2", "1 2 3", "what"}[source.Intn(7)]
	default:
		return randomName(source)
	}
}

func randomMaking(source *rand.Rand, m *model) string {
	switch source.Intn(13) {
	case 0:
		return "variable " + randomName(source)
	case 1:
		return strconv.Itoa(source.Intn(9)) + " constant " + randomName(source)
	case 2, 3:
		return "marker " + []string{"m", "n", "m", "n", randomName(source)}[source.Intn(5)]
	case 4:
		return "forget " + randomName(source)
	case 5, 6, 7:
		text := ": " + randomName(source)
		for range source.Intn(7) {
			text += " " + randomPiece(source, m)
		}
		return text + []string{" ;", " ;", " ;", " ;", " recurse ;", " ; ' a", " . ;", ""}[source.Intn(8)]
	case 8:
		name := []string{"a", "b", "c"}[source.Intn(3)]
		return "marker m : " + name + " " + randomPiece(source, m) + " m " + randomPiece(source, m) + " " + randomPiece(source, m) + " ; 3 4 " + name
	default:
		return randomPiece(source, m)
	}
}

func TestMakingAndForgettingAgainstAModel(t *testing.T) {
	source := rand.New(rand.NewSource(11))
	ends, forgetful := map[api.Errno]int{}, 0
	for range 600 {
		m, want := anvil.New(), &model{there: map[int]*modelWord{}}
		lines := []string{": a 1 . ; variable b 2 constant c marker m : d a ;"}
		check(t, m, lines[0], want.do(lines[0]))
		for range 60 {
			var parts []string
			for range 1 + source.Intn(5) {
				parts = append(parts, randomMaking(source, want))
			}
			line := strings.Join(parts, " ")
			lines = append(lines, line)
			answer := want.do(line)
			check(t, m, line, answer)
			checkModel(t, m, want)
			if t.Failed() {
				t.Fatalf("the lines were:\n%s", strings.Join(lines, "\n"))
			}
			ends[answer.Err]++
		}
		forgetful += want.forgetful
	}
	for _, err := range []api.Errno{api.OK, api.ErrWord, api.ErrName, api.ErrForm, api.ErrFull, api.ErrUnder, api.ErrPlace, api.ErrGone, api.ErrDeep} {
		if ends[err] < 50 {
			t.Errorf("too few lines ended with %d: %v", err, ends)
		}
	}
	if forgetful < 500 {
		t.Errorf("definitions made words to be forgotten %d times only", forgetful)
	}
}
