package checker

import "circheck/api"

// use is a literal of the file and the byte at which it stands: some faults show only when all is read.
type use struct {
	literal int
	pos     int
}

type latchLine struct {
	literal int
	next    use
	reset   int // api.Reset0, api.Reset1 or api.ResetAny
}

type gateLine struct {
	result use
	left   use
	right  use
}

// netlist is a circuit as the file has it: with the file's literals, in the file's order.
type netlist struct {
	given   []bool // of each variable up to the greatest: whether it is 0, or an input's, latch's, gate's
	inputs  []int
	latches []latchLine
	outputs []use
	bads    []use
	gates   []gateLine
}

func newNetlist(top int) *netlist {
	n := &netlist{}
	for v := 0; v <= top; v++ {
		n.given = append(n.given, v == 0)
	}
	return n
}

func (n *netlist) readPlain(r *reader, h header) {
	for k := 0; k < h.inputs; k++ {
		u := n.definition(r)
		r.expect('\n')
		n.inputs = append(n.inputs, u.literal)
	}
	for k := 0; k < h.latches; k++ {
		u := n.definition(r)
		r.expect(' ')
		n.latch(r, u.literal)
	}
	n.outputs = n.properties(r, h.outputs)
	n.bads = n.properties(r, h.bads)
	for k := 0; k < h.gates; k++ {
		n.plainGate(r)
	}
}

func (n *netlist) readBinary(r *reader, h header) {
	for k := 0; k < h.inputs; k++ {
		literal := 2 * (1 + k)
		n.give(literal)
		n.inputs = append(n.inputs, literal)
	}
	for k := 0; k < h.latches; k++ {
		literal := 2 * (1 + h.inputs + k)
		n.give(literal)
		n.latch(r, literal)
	}
	n.outputs = n.properties(r, h.outputs)
	n.bads = n.properties(r, h.bads)
	for k := 0; k < h.gates; k++ {
		n.binaryGate(r, 2*(1+h.inputs+h.latches+k))
	}
}

// has tells whether a literal is of a variable that the header leaves room for.
func (n *netlist) has(literal int) bool { return literal >= 0 && literal>>1 < len(n.given) }

// isGiven tells whether a literal's variable is 0, or an input's, latch's, gate's.
func (n *netlist) isGiven(literal int) bool { return n.has(literal) && n.given[literal>>1] }

func (n *netlist) give(literal int) {
	if n.has(literal) {
		n.given[literal>>1] = true
	}
}

// literal reads a literal of any kind.
func (n *netlist) literal(r *reader) use {
	start := r.pos
	l := r.number()
	if !n.has(l) {
		r.fail(api.ErrLit, start)
	}
	return use{literal: l, pos: start}
}

// definition reads the literal of an input, a latch or a gate. Variable 0 counts as given from the start, so that 0 is no such literal either.
func (n *netlist) definition(r *reader) use {
	u := n.literal(r)
	if u.literal&1 == 1 || n.isGiven(u.literal) {
		r.fail(api.ErrDef, u.pos)
	}
	n.give(u.literal)
	return u
}

// latch reads the part of a latch's line that both forms have.
func (n *netlist) latch(r *reader, literal int) {
	next := n.literal(r)
	reset := api.Reset0
	if r.take(' ') {
		reset = r.reset(literal)
	}
	r.expect('\n')
	n.latches = append(n.latches, latchLine{literal: literal, next: next, reset: reset})
}

// reset reads what a latch begins as. It is no literal of the file: ErrLit does not hold for it.
func (r *reader) reset(own int) int {
	start := r.pos
	switch r.number() {
	case 0:
		return api.Reset0
	case 1:
		return api.Reset1
	case own:
		return api.ResetAny
	}
	r.fail(api.ErrReset, start)
	return api.Reset0
}

// properties reads lines of one literal each.
func (n *netlist) properties(r *reader, count int) []use {
	var found []use
	for k := 0; k < count; k++ {
		u := n.literal(r)
		r.expect('\n')
		found = append(found, u)
	}
	return found
}

func (n *netlist) plainGate(r *reader) {
	result := n.definition(r)
	r.expect(' ')
	left := n.literal(r)
	r.expect(' ')
	right := n.literal(r)
	r.expect('\n')
	n.gates = append(n.gates, gateLine{result: result, left: left, right: right})
}

func (n *netlist) binaryGate(r *reader, literal int) {
	first := r.pos
	d := r.difference()
	if d == 0 || d > literal {
		r.fail(api.ErrDelta, first)
	}
	left := literal - d
	second := r.pos
	d = r.difference()
	if d > left {
		r.fail(api.ErrDelta, second)
	}
	n.give(literal)
	n.gates = append(n.gates, gateLine{
		result: use{literal: literal, pos: first},
		left:   use{literal: left, pos: first},
		right:  use{literal: left - d, pos: second},
	})
}

// judgeUses finds the first use of a variable that nothing gives. It comes behind every fault of reading, since a gate may stand behind its use.
func (n *netlist) judgeUses(r *reader) {
	for k := 0; k < len(n.latches); k++ {
		n.judgeUse(r, n.latches[k].next)
	}
	for k := 0; k < len(n.outputs); k++ {
		n.judgeUse(r, n.outputs[k])
	}
	for k := 0; k < len(n.bads); k++ {
		n.judgeUse(r, n.bads[k])
	}
	for k := 0; k < len(n.gates); k++ {
		n.judgeUse(r, n.gates[k].left)
		n.judgeUse(r, n.gates[k].right)
	}
}

func (n *netlist) judgeUse(r *reader, u use) {
	if !n.isGiven(u.literal) {
		r.fail(api.ErrUndef, u.pos)
	}
}
