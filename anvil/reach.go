package anvil

import (
	"anvil/api"
	"anvil/lexicon"
)

// reach does a word of the language that comes to a word of one's own, by the token that it takes last.
func (r *run) reach(p lexicon.Primitive, taken []int) api.Errno {
	w := r.machine.byToken(taken[len(taken)-1])
	switch p.Name {
	case "@":
		return r.fetch(w)
	case "!":
		return r.store(w, taken[0])
	default: // execute
		return r.execute(w)
	}
}

func (r *run) fetch(w ownWord) api.Errno {
	v, ok := w.(*variable)
	if !ok {
		return api.ErrPlace
	}
	return r.commit(1, 0, lexicon.Effect{Lays: []int{v.number}})
}

func (r *run) store(w ownWord, n int) api.Errno {
	v, ok := w.(*variable)
	if !ok {
		return api.ErrPlace
	}
	v.number = n
	return r.commit(2, 0, lexicon.Effect{})
}

// execute does a word as if it stood here; the step was counted already.
func (r *run) execute(w ownWord) api.Errno {
	if w == nil {
		return api.ErrGone
	}
	if _, err := r.take(1); err != api.OK {
		return err
	}
	return r.do(w)
}
