package anvil

import "anvil/api"

// draft is the body of a definition while it is read.
type draft struct {
	body []word
	open []opening // the innermost at the end
}

// opening is a part of a body whose end is not read yet.
type opening struct {
	kind  bold  // the word that was read last of those that make up the part
	start int   // where in the body the part starts
	waits []int // where the words stand that go on behind the part's end
}

// inner gives the kind of the innermost part that is open, or nothing.
func (d *draft) inner() bold {
	if len(d.open) == 0 {
		return ""
	}
	return d.open[len(d.open)-1].kind
}

// innerLoop gives the innermost `do` that is open; nil, if there is none.
func (d *draft) innerLoop() *opening {
	for at := len(d.open) - 1; at >= 0; at-- {
		if d.open[at].kind == "do" {
			return &d.open[at]
		}
	}
	return nil
}

// fits says whether a bold word can stand here. A `;` where nothing is open ends the body, and is not asked for.
func (d *draft) fits(b bold) bool {
	switch b {
	case ":", ";", "variable", "constant", "marker", "forget":
		return false
	case "else":
		return d.inner() == "if"
	case "then":
		return d.inner() == "if" || d.inner() == "else"
	case "until", "again", "while":
		return d.inner() == "begin"
	case "repeat":
		return d.inner() == "while"
	case "loop":
		return d.inner() == "do"
	case "i", "leave":
		return d.innerLoop() != nil
	default:
		return true
	}
}

// add puts a word at the end of the body, if there is room; a bold one must fit.
func (d *draft) add(w word) api.Errno {
	if len(d.body) == api.MaxBody {
		return api.ErrFull
	}
	if b, ok := w.(bold); ok {
		d.body = append(d.body, control{bold: b})
		d.settle(b, len(d.body)-1)
	} else {
		d.body = append(d.body, w)
	}
	return api.OK
}

// settle opens and shuts parts at the bold word that stands at the end of the body,
// and settles where it goes on, and where those do that waited for it.
func (d *draft) settle(b bold, at int) {
	switch b {
	case "if", "do":
		d.open = append(d.open, opening{kind: b, start: at, waits: []int{at}})
	case "begin":
		d.open = append(d.open, opening{kind: b, start: at})
	case "else":
		d.shut()
		d.open = append(d.open, opening{kind: b, start: at, waits: []int{at}})
	case "while":
		part := &d.open[len(d.open)-1]
		part.kind, part.waits = b, []int{at}
	case "leave":
		loop := d.innerLoop()
		loop.waits = append(loop.waits, at)
	case "until", "again", "repeat", "loop":
		d.goOn(at, d.open[len(d.open)-1].start+1)
		d.shut()
	case "then":
		d.shut()
	}
}

// shut ends the innermost part: what waited goes on behind the last word of the body.
func (d *draft) shut() {
	last := len(d.open) - 1
	for _, at := range d.open[last].waits {
		d.goOn(at, len(d.body))
	}
	d.open = d.open[:last]
}

func (d *draft) goOn(at, goal int) {
	if c, ok := d.body[at].(control); ok {
		c.goal = goal
		d.body[at] = c
	}
}
