package anvil

import (
	"anvil/api"
	"anvil/lexicon"
)

// run is a line while it is being done.
type run struct {
	machine *Machine
	words   []string
	at      int // the word of the line that is being done or read
	steps   int
	depth   int // how many definitions are being done, each within the next
	out     []byte
}

func (r *run) all() api.Answer {
	for r.at < len(r.words) {
		if err := r.step(); err != api.OK {
			return r.fail(err)
		}
		r.at++
	}
	return api.Answer{Out: string(r.out)}
}

func (r *run) fail(err api.Errno) api.Answer {
	r.machine.stack, r.machine.aside = nil, nil
	return api.Answer{Out: string(r.out), Err: err, Word: r.at}
}

func (r *run) step() api.Errno {
	if err := r.countStep(); err != api.OK {
		return err
	}
	return r.do(r.machine.meaning(r.words[r.at]))
}

// countStep counts a step; it is asked ahead of all else that the step may fail at.
func (r *run) countStep() api.Errno {
	if r.steps == api.MaxSteps {
		return api.ErrSteps
	}
	r.steps++
	return api.OK
}

func (r *run) do(w word) api.Errno {
	switch w := w.(type) {
	case number:
		return r.lay(int(w))
	case lexicon.Primitive:
		return r.doPrimitive(w)
	case *definition:
		return r.doDefinition(w)
	case *variable:
		return r.lay(w.Token())
	case constant:
		return r.lay(w.number)
	case marker:
		r.machine.forget(w)
		return api.OK
	case bold:
		return r.doBold(w)
	default:
		return api.ErrWord
	}
}

func (r *run) doPrimitive(p lexicon.Primitive) api.Errno {
	stack, aside := r.machine.stack, r.machine.aside
	if len(stack) < p.Takes || len(aside) < p.TakesAside {
		return api.ErrUnder
	}
	taken, takenAside := stack[len(stack)-p.Takes:], aside[len(aside)-p.TakesAside:]
	if p.Reaches() {
		return r.reach(p, taken)
	}
	e, err := p.Plan(taken, takenAside, len(stack))
	if err != api.OK {
		return err
	}
	return r.commit(p.Takes, p.TakesAside, e)
}

// commit lets an effect happen in place of the numbers taken, if there is room for it.
func (r *run) commit(takes, takesAside int, e lexicon.Effect) api.Errno {
	m := r.machine
	stack, aside := m.stack[:len(m.stack)-takes], m.aside[:len(m.aside)-takesAside]
	if len(stack)+len(e.Lays) > api.MaxStack || len(aside)+len(e.LaysAside) > api.MaxStack {
		return api.ErrOver
	}
	if len(r.out)+len(e.Tells) > api.MaxOut {
		return api.ErrOut
	}
	m.stack, m.aside = append(stack, e.Lays...), append(aside, e.LaysAside...)
	r.out = append(r.out, e.Tells...)
	return api.OK
}

// lay lays a number on the stack.
func (r *run) lay(n int) api.Errno {
	return r.commit(0, 0, lexicon.Effect{Lays: []int{n}})
}

// take takes numbers from the stack; they are to be read ahead of what is laid next.
func (r *run) take(n int) ([]int, api.Errno) {
	left := len(r.machine.stack) - n
	if left < 0 {
		return nil, api.ErrUnder
	}
	taken := r.machine.stack[left:]
	r.machine.stack = r.machine.stack[:left]
	return taken, api.OK
}
