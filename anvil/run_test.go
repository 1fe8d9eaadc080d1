package anvil

import (
	"strings"
	"testing"

	"anvil/api"
	"anvil/scan"
)

// A line is too short for MaxSteps words, so these runs start with steps done already.
func runFrom(steps int, line string) (*Machine, api.Answer) {
	m := New()
	r := run{machine: m, words: scan.Words(line), steps: steps}
	return m, r.all()
}

func TestStepsUpToTheLimit(t *testing.T) {
	m, a := runFrom(api.MaxSteps-4, "2 3 + .")
	if a != (api.Answer{Out: "5 "}) {
		t.Errorf("P4: the last steps = %+v", a)
	}
	if len(m.stack) != 0 {
		t.Errorf("P4: stack = %v", m.stack)
	}
}

func TestOneStepTooMany(t *testing.T) {
	for _, last := range []string{"4", ".", "/", "what", "if", "variable", strings.Repeat("x", 20)} {
		m, a := runFrom(api.MaxSteps-3, "1 >r 0 "+last)
		if a != (api.Answer{Err: api.ErrSteps, Word: 3}) {
			t.Errorf("P4: a step too many at %q = %+v", last, a)
		}
		if len(m.stack)+len(m.aside) != 0 {
			t.Errorf("P4: left behind: %v, %v", m.stack, m.aside)
		}
	}
}

func TestEveryLineHasItsOwnSteps(t *testing.T) {
	m := New()
	for range 20 {
		if a := m.Do(strings.Repeat("1 drop ", 70)); a.Err != api.OK {
			t.Fatalf("P4: a line of 140 steps = %+v", a)
		}
	}
}
