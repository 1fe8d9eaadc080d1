package anvil

import "anvil/api"

// call is a definition while it is being done.
type call struct {
	run        *run
	definition *definition
	at         int    // the word of the body that is next
	loops      []loop // the innermost at the end
}

type loop struct{ count, limit int }

// doDefinition does the words of a definition, each within those that are being done already.
func (r *run) doDefinition(d *definition) api.Errno {
	if r.depth == api.MaxDepth {
		return api.ErrDeep
	}
	r.depth++
	c := call{run: r, definition: d}
	err := c.all()
	r.depth--
	return err
}

func (c *call) all() api.Errno {
	for c.at < len(c.definition.body) {
		if err := c.step(); err != api.OK {
			return err
		}
	}
	return api.OK
}

func (c *call) step() api.Errno {
	if err := c.run.countStep(); err != api.OK {
		return err
	}
	w := c.definition.body[c.at]
	c.at++
	switch w := w.(type) {
	case control:
		return c.control(w)
	default:
		return c.run.do(w)
	}
}

func (c *call) control(w control) api.Errno {
	switch w.bold {
	case "if", "until", "while":
		return c.test(w.goal)
	case "else", "again", "repeat":
		c.at = w.goal
	case "do":
		return c.enter(w.goal)
	case "loop":
		c.countLoop(w.goal)
	case "leave":
		c.loops = c.loops[:len(c.loops)-1]
		c.at = w.goal
	case "i":
		return c.run.lay(c.loops[len(c.loops)-1].count)
	case "exit":
		c.at = len(c.definition.body)
	case "recurse":
		return c.run.doDefinition(c.definition)
	}
	return api.OK
}

// test takes a number, and goes on at the goal if it is FALSE.
func (c *call) test(goal int) api.Errno {
	taken, err := c.run.take(1)
	if err != api.OK {
		return err
	}
	if taken[0] == 0 {
		c.at = goal
	}
	return api.OK
}

// enter begins a loop, or goes on at the goal if there is nothing to count.
func (c *call) enter(goal int) api.Errno {
	taken, err := c.run.take(2)
	if err != api.OK {
		return err
	}
	limit, start := taken[0], taken[1]
	if start < limit {
		c.loops = append(c.loops, loop{count: start, limit: limit})
	} else {
		c.at = goal
	}
	return api.OK
}

// countLoop counts in the innermost loop, which goes on at the goal or ends.
func (c *call) countLoop(goal int) {
	inner := len(c.loops) - 1
	c.loops[inner].count++
	if c.loops[inner].count < c.loops[inner].limit {
		c.at = goal
	} else {
		c.loops = c.loops[:inner]
	}
}
