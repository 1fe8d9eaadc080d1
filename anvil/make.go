package anvil

import (
	"strings"

	"anvil/api"
	"anvil/scan"
)

// doBold does a bold word outside of definitions.
func (r *run) doBold(b bold) api.Errno {
	switch b {
	case ":":
		return r.define()
	case "'":
		return r.layToken()
	case "variable":
		return r.makeVariable()
	case "constant":
		return r.makeConstant()
	case "marker":
		return r.makeMarker()
	case "forget":
		return r.forget()
	default:
		return api.ErrForm
	}
}

func (r *run) makeVariable() api.Errno {
	if err := r.askNewName(); err != api.OK {
		return err
	}
	r.keep(&variable{common: r.begin()})
	r.at++
	return api.OK
}

func (r *run) makeConstant() api.Errno {
	if err := r.askNewName(); err != api.OK {
		return err
	}
	taken, err := r.take(1)
	if err != api.OK {
		return err
	}
	r.keep(constant{common: r.begin(), number: taken[0]})
	r.at++
	return api.OK
}

func (r *run) makeMarker() api.Errno {
	if err := r.askNewName(); err != api.OK {
		return err
	}
	r.keep(marker{common: r.begin()})
	r.at++
	return api.OK
}

func (r *run) forget() api.Errno {
	w, err := r.askOwn()
	if err != api.OK {
		return err
	}
	r.machine.forget(w)
	r.at++
	return api.OK
}

// define reads a definition, from its `:` to its `;`.
func (r *run) define() api.Errno {
	if err := r.askNewName(); err != api.OK {
		return err
	}
	shared := r.begin()
	body, err := r.readBody()
	if err != api.OK {
		return err
	}
	r.keep(&definition{common: shared, body: body})
	return api.OK
}

// readBody reads the words behind a definition's name, up to its `;`.
func (r *run) readBody() ([]word, api.Errno) {
	var d draft
	for r.at += 2; r.at < len(r.words); r.at++ {
		if r.words[r.at] == ";" && len(d.open) == 0 {
			return d.body, api.OK
		}
		if err := r.readWord(&d); err != api.OK {
			return nil, err
		}
	}
	r.at = len(r.words) - 1
	return nil, api.ErrForm
}

func (r *run) readWord(d *draft) api.Errno {
	text := strings.Clone(r.words[r.at]) // the body may keep it, and the line is not kept
	w := r.machine.meaning(text)
	if b, ok := w.(bold); ok && !d.fits(b) {
		return api.ErrForm
	}
	if w == nil {
		return api.ErrWord
	}
	if text == "'" {
		return r.readToken(d)
	}
	return d.add(w)
}

// readToken reads a `'` with its name; it stays the word at hand until nothing can fail at it.
func (r *run) readToken(d *draft) api.Errno {
	w, err := r.askOwn()
	if err != api.OK {
		return err
	}
	if err := d.add(number(w.Token())); err != api.OK {
		return err
	}
	r.at++
	return api.OK
}

func (r *run) layToken() api.Errno {
	w, err := r.askOwn()
	if err != api.OK {
		return err
	}
	if err := r.lay(w.Token()); err != api.OK {
		return err
	}
	r.at++
	return api.OK
}

// begin begins a word of one's own with the name behind the word at hand.
func (r *run) begin() common { return r.machine.begin(r.words[r.at+1]) }

// keep ends a word of one's own, which is there from now on.
func (r *run) keep(w ownWord) { r.machine.own = append(r.machine.own, w) }

// askNewName asks whether a word of one's own can be made with the name behind the word at hand.
func (r *run) askNewName() api.Errno {
	if r.at+1 == len(r.words) {
		return api.ErrName
	}
	name := r.words[r.at+1]
	if !scan.IsName(name) || isBold(name) {
		return api.ErrName
	}
	if len(r.machine.own) == api.MaxWords {
		return api.ErrFull
	}
	return api.OK
}

// askOwn gives the newest word of one's own with the name behind the word at hand.
// Any text may be looked for; what is no name is simply not found.
func (r *run) askOwn() (ownWord, api.Errno) {
	if r.at+1 == len(r.words) || isBold(r.words[r.at+1]) {
		return nil, api.ErrName
	}
	w := r.machine.newest(r.words[r.at+1])
	if w == nil {
		return nil, api.ErrWord
	}
	return w, api.OK
}
