package checker

import "circheck/api"

// frame is a set of states: those that make its clauses true. Its solver knows the circuit and these clauses; the solver's literals are the circuit's. Clauses of a run are over latches (P14).
type frame struct {
	solver *Solver
	own    [][]int // the clauses that the next frame does not have
}

// newFrame is the frame of all states.
func newFrame(c *Circuit) frame {
	s := New()
	for v := 0; v < c.NVars(); v++ {
		// All else follows from inputs and latches.
		s.NewVar(v <= c.inputs+len(c.latches))
	}
	s.Add([]int{1})
	for k := 0; k < len(c.gates); k++ {
		own := c.gateLiteral(k)
		g := c.gates[k]
		s.Add([]int{own ^ 1, g.greater})
		s.Add([]int{own ^ 1, g.lesser})
		s.Add([]int{own, g.greater ^ 1, g.lesser ^ 1})
	}
	return frame{solver: s}
}

// addResets leaves a frame the first states alone.
func (f *frame) addResets(c *Circuit) {
	for j := 0; j < len(c.latches); j++ {
		own := c.latchLiteral(j)
		switch c.latches[j].reset {
		case api.Reset0:
			f.solver.Add([]int{own ^ 1})
		case api.Reset1:
			f.solver.Add([]int{own})
		}
	}
}

// add adds a clause over latches.
func (f *frame) add(c *Circuit, clause []int) {
	literals := []int{}
	for i := 0; i < len(clause); i++ {
		own := c.latchLiteral(clause[i] >> 1)
		literals = append(literals, own^clause[i]&1)
	}
	f.solver.Add(literals)
}

// drop takes a clause from the frame's own, and tells whether it was there.
func (f *frame) drop(clause []int) bool {
	left := [][]int{}
	for i := 0; i < len(f.own); i++ {
		if !areEqual(f.own[i], clause) {
			left = append(left, f.own[i])
		}
	}
	had := len(left) < len(f.own)
	f.own = left
	return had
}

// found tells the state and the inputs of the solver's last answer, which was Sat.
func (f *frame) found(c *Circuit) move {
	input := f.bits(1, c.inputs)
	state := f.bits(1+c.inputs, len(c.latches))
	return move{state: state, input: input}
}

// bits is a number of the values of so many variables, from the first on.
func (f *frame) bits(first int, count int) int {
	number := 0
	for j := 0; j < count; j++ {
		value, _ := f.solver.Value(first + j)
		if value {
			number |= 1 << j
		}
	}
	return number
}

// clauseAgainst is the clause that is false in a state alone.
func (c *Circuit) clauseAgainst(state int) []int {
	clause := []int{}
	for j := 0; j < len(c.latches); j++ {
		clause = append(clause, 2*j+state>>j&1)
	}
	return clause
}

// broken tells what must be true ahead of a step so that a clause is false behind it: a literal for each of the clause's.
func (c *Circuit) broken(clause []int) []int {
	literals := []int{}
	for i := 0; i < len(clause); i++ {
		next := c.latches[clause[i]>>1].next
		literals = append(literals, next^1^clause[i]&1)
	}
	return literals
}

// shortened is the part of a clause that a core of its broken form speaks of, and one literal more if a first state would break that part. The clause is one that all first states make true.
func (c *Circuit) shortened(clause []int, core []int) []int {
	literals := c.broken(clause)
	named := firstPlaces(literals, core)
	lacking := true
	for i := 0; i < len(clause); i++ {
		if named[i] && c.beginsTrue(clause[i]) {
			lacking = false
		}
	}
	short := []int{}
	for i := 0; i < len(clause); i++ {
		if !named[i] && lacking && c.beginsTrue(clause[i]) {
			named[i] = true
			lacking = false
		}
		if named[i] {
			short = append(short, clause[i])
		}
	}
	return short
}

// firstPlaces tells of each place of a list whether a wanted number stands there for the first time. Latches that become the same stand in a list more than once, and one of them is enough.
func firstPlaces(list []int, wanted []int) []bool {
	places := make([]bool, len(list))
	for i := 0; i < len(wanted); i++ {
		for k := 0; k < len(list); k++ {
			if list[k] == wanted[i] {
				places[k] = true
				break
			}
		}
	}
	return places
}

// areEqual tells whether two lists have the same numbers at the same places.
func areEqual(a []int, b []int) bool {
	if len(a) != len(b) {
		return false
	}
	for i := 0; i < len(a); i++ {
		if a[i] != b[i] {
			return false
		}
	}
	return true
}

// beginsTrue tells whether a literal over latches is true in all first states.
func (c *Circuit) beginsTrue(literal int) bool {
	reset := c.latches[literal>>1].reset
	return reset != api.ResetAny && reset != literal&1
}
