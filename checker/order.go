package checker

import "circheck/api"

// unlaid marks what has no place: a variable in an order, or a gate that is not found.
const unlaid = -1

// order is the circuit's own order while it is being laid.
type order struct {
	place []int // of each variable of the file: its number in the circuit, or unlaid
	count int   // how many are laid
}

// arrange lays a netlist in the circuit's own order (P5).
func arrange(n *netlist) (*Circuit, api.Fault) {
	o := newOrder(n)
	c := &Circuit{inputs: len(n.inputs)}
	for k := 0; k < len(n.gates); k++ {
		ready := o.firstReady(n.gates)
		if ready == unlaid {
			return nil, api.Fault{E: api.ErrCycle, Pos: o.firstUnlaid(n.gates)}
		}
		o.layGate(c, n.gates[ready])
	}
	for j := 0; j < len(n.latches); j++ {
		next := o.literal(n.latches[j].next.literal)
		c.latches = append(c.latches, latch{next: next, reset: n.latches[j].reset})
	}
	bad := n.property()
	c.bad = o.literal(bad)
	return c, api.Fault{}
}

// property tells the literal that is the bad (P4).
func (n *netlist) property() int {
	if len(n.bads) > 0 {
		return n.bads[0].literal
	}
	if len(n.outputs) > 0 {
		return n.outputs[0].literal
	}
	return 0
}

// newOrder lays all but the gates.
func newOrder(n *netlist) *order {
	o := &order{}
	for v := 0; v < len(n.given); v++ {
		o.place = append(o.place, unlaid)
	}
	o.lay(0)
	for j := 0; j < len(n.inputs); j++ {
		o.lay(n.inputs[j])
	}
	for j := 0; j < len(n.latches); j++ {
		o.lay(n.latches[j].literal)
	}
	return o
}

// at tells the place of a literal's variable.
func (o *order) at(literal int) int {
	v := literal >> 1
	if v < 0 || v >= len(o.place) {
		return unlaid
	}
	return o.place[v]
}

// lay gives a literal's variable the next place.
func (o *order) lay(literal int) {
	v := literal >> 1
	if v < 0 || v >= len(o.place) {
		return
	}
	o.place[v] = o.count
	o.count++
}

// literal tells what a literal of the file, whose variable is laid, is in the circuit.
func (o *order) literal(literal int) int {
	place := o.at(literal)
	return 2*place + literal&1
}

func (o *order) layGate(c *Circuit, g gateLine) {
	greater := o.literal(g.left.literal)
	lesser := o.literal(g.right.literal)
	if greater < lesser {
		greater, lesser = lesser, greater
	}
	c.gates = append(c.gates, gate{greater: greater, lesser: lesser})
	o.lay(g.result.literal)
}

// firstReady finds the first gate that is not laid and whose operands are.
func (o *order) firstReady(gates []gateLine) int {
	for k := 0; k < len(gates); k++ {
		result := o.at(gates[k].result.literal)
		left := o.at(gates[k].left.literal)
		right := o.at(gates[k].right.literal)
		if result == unlaid && left != unlaid && right != unlaid {
			return k
		}
	}
	return unlaid
}

// firstUnlaid tells where the first gate that is not laid stands in the file.
func (o *order) firstUnlaid(gates []gateLine) int {
	for k := 0; k < len(gates); k++ {
		place := o.at(gates[k].result.literal)
		if place == unlaid {
			return gates[k].result.pos
		}
	}
	return 0
}
