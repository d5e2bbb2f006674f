package checker

import "circheck/api"

// Circuit is a circuit that was read. All its literals are of its own order (P5), so that a gate's operands stand ahead of it.
type Circuit struct {
	inputs  int
	latches []latch
	gates   []gate
	bad     int
}

// latch: what it becomes; and api.Reset0, api.Reset1 or api.ResetAny.
type latch struct {
	next  int
	reset int
}

// gate: its operands, the greater one first.
type gate struct {
	greater int
	lesser  int
}

// A file that is at fault has the circuit nil: its calls answer zero values rather than panic (P1).

// NIn, NLatch, NAnd, NVars tell how many inputs, latches, gates, variables there are (P6).
func (c *Circuit) NIn() int {
	if c == nil {
		return 0
	}
	return c.inputs
}

func (c *Circuit) NLatch() int {
	if c == nil {
		return 0
	}
	return len(c.latches)
}

func (c *Circuit) NAnd() int {
	if c == nil {
		return 0
	}
	return len(c.gates)
}

func (c *Circuit) NVars() int {
	if c == nil {
		return 0
	}
	return 1 + c.inputs + len(c.latches) + len(c.gates)
}

// Step tells the next state, and whether the bad is true (P6).
func (c *Circuit) Step(state int, input int) (int, bool) {
	if c == nil {
		return 0, false
	}
	values := c.values(state, input)
	after := 0
	for j := 0; j < len(c.latches); j++ {
		if isTrue(values, c.latches[j].next) {
			after |= 1 << j
		}
	}
	return after, isTrue(values, c.bad)
}

// Begins tells whether a state is a first one (P6).
func (c *Circuit) Begins(state int) bool {
	if c == nil {
		return false
	}
	for j := 0; j < len(c.latches); j++ {
		reset := c.latches[j].reset
		if reset != api.ResetAny && reset != state>>j&1 {
			return false
		}
	}
	return true
}

// values tells the value of each variable in a state with inputs.
func (c *Circuit) values(state int, input int) []bool {
	values := []bool{false}
	for j := 0; j < c.inputs; j++ {
		values = append(values, input>>j&1 == 1)
	}
	for j := 0; j < len(c.latches); j++ {
		values = append(values, state>>j&1 == 1)
	}
	for k := 0; k < len(c.gates); k++ {
		greater := isTrue(values, c.gates[k].greater)
		lesser := isTrue(values, c.gates[k].lesser)
		values = append(values, greater && lesser)
	}
	return values
}

// isTrue tells a literal's value. A literal of no variable has none and counts as false, so that no index can be wrong.
func isTrue(values []bool, literal int) bool {
	v := literal >> 1
	if v < 0 || v >= len(values) {
		return false
	}
	return values[v] != (literal&1 == 1)
}
