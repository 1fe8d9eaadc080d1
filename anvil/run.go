package anvil

import (
	"anvil/api"
	"anvil/scan"
)

// run is a line while it is being done.
type run struct {
	machine *Machine
	words   []string
	at      int // the word of the line that is being done
	steps   int
	out     []byte
}

func (r *run) all() api.Answer {
	for r.at < len(r.words) {
		if err := r.step(); err != api.OK {
			return r.fail(err)
		}
		r.at++
	}
	return api.Answer{Out: string(r.out)}
}

func (r *run) fail(err api.Errno) api.Answer {
	r.machine.stack, r.machine.aside = nil, nil
	return api.Answer{Out: string(r.out), Err: err, Word: r.at}
}

// step does the word at hand; the steps are asked first, ahead of what the word means.
func (r *run) step() api.Errno {
	if r.steps == api.MaxSteps {
		return api.ErrSteps
	}
	r.steps++
	return r.do(meaning(r.words[r.at]))
}

func (r *run) do(w word) api.Errno {
	switch w := w.(type) {
	case number:
		return r.commit(0, 0, effect{lays: []int{int(w)}})
	case primitive:
		return r.doPrimitive(w)
	case bold:
		return r.doBold(w)
	default:
		return api.ErrWord
	}
}

func (r *run) doPrimitive(p primitive) api.Errno {
	stack, aside := r.machine.stack, r.machine.aside
	if len(stack) < p.takes || len(aside) < p.takesAside {
		return api.ErrUnder
	}
	e, err := p.plan(stack[len(stack)-p.takes:], aside[len(aside)-p.takesAside:], len(stack))
	if err != api.OK {
		return err
	}
	return r.commit(p.takes, p.takesAside, e)
}

// commit lets an effect happen in place of the numbers taken, if there is room for it.
func (r *run) commit(takes, takesAside int, e effect) api.Errno {
	m := r.machine
	stack, aside := m.stack[:len(m.stack)-takes], m.aside[:len(m.aside)-takesAside]
	if len(stack)+len(e.lays) > api.MaxStack || len(aside)+len(e.laysAside) > api.MaxStack {
		return api.ErrOver
	}
	if len(r.out)+len(e.tells) > api.MaxOut {
		return api.ErrOut
	}
	m.stack, m.aside = append(stack, e.lays...), append(aside, e.laysAside...)
	r.out = append(r.out, e.tells...)
	return api.OK
}

// doBold does a bold word outside of definitions.
func (r *run) doBold(b bold) api.Errno {
	switch b {
	case ":", "variable", "constant", "marker":
		return r.askName(scan.IsName)
	case "forget", "'":
		// Any text may be looked for; what is no name is simply not found.
		return r.askName(func(string) bool { return true })
	default:
		return api.ErrForm
	}
}

// askName asks for the name behind the word at hand.
// It never answers OK: no word of one's own can be made, and so none can be found.
func (r *run) askName(fits func(string) bool) api.Errno {
	if r.at+1 == len(r.words) {
		return api.ErrName
	}
	name := r.words[r.at+1]
	if !fits(name) || isBold(name) {
		return api.ErrName
	}
	return api.ErrWord
}
