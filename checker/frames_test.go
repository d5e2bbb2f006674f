package checker

import (
	"fmt"
	"slices"
	"testing"

	"circheck/api"
)

// These tests look inside a run: what they check shows from without only as a run that takes too long.

// followRun decides a circuit as decide does, and looks at the frames behind each move.
func followRun(t *testing.T, file string) {
	t.Helper()
	c, fault := Read(file)
	if fault.E != api.OK {
		t.Fatalf("Read(%q): %+v", file, fault)
	}
	r := newRun(c, api.Enough)
	verdict := undecided
	for verdict == undecided && !t.Failed() {
		verdict = r.clearNewest()
		checkFrames(t, r)
		if len(r.frames) > 1+1<<c.NLatch() {
			t.Errorf("of %q there are %d frames", file, len(r.frames))
		}
		if verdict == undecided {
			checkNewestIsClear(t, r)
			verdict = r.advance()
			checkFrames(t, r)
		}
	}
}

// has tells whether a frame has a state, by its solver.
func (r *run) has(level int, state int) bool {
	var assumed []int
	for j := range r.circuit.latches {
		assumed = append(assumed, r.circuit.latchLiteral(j)^1^state>>j&1)
	}
	return r.frames[level].solver.Solve(assumed, api.Enough) == Sat
}

// checkFrames: each frame has the states of the one below it, and all states that steps from there lead to; its solver has no clause twice; its own clauses and those above are what its solver knows beside the circuit.
func checkFrames(t *testing.T, r *run) {
	t.Helper()
	for k := range r.frames {
		checkKnown(t, r, k)
		for state := 0; state < 1<<len(r.circuit.latches) && k+1 < len(r.frames); state++ {
			if !r.has(k, state) {
				continue
			}
			if !r.has(k+1, state) {
				t.Fatalf("frame %d lacks state %d of the one below", k+1, state)
			}
			for input := 0; input < 1<<r.circuit.inputs; input++ {
				if z, _ := r.circuit.Step(state, input); !r.has(k+1, z) {
					t.Fatalf("frame %d lacks state %d behind %d", k+1, z, state)
				}
			}
		}
	}
}

func checkKnown(t *testing.T, r *run, level int) {
	t.Helper()
	bare := len(newFrame(r.circuit).solver.clauses)
	known := map[string]bool{}
	for _, clause := range r.frames[level].solver.clauses[bare:] {
		text := fmt.Sprint(clause)
		if known[text] {
			t.Fatalf("frame %d knows %s twice", level, text)
		}
		known[text] = true
	}
	if level == 0 {
		return
	}
	count := 0
	for _, f := range r.frames[level:] {
		for _, clause := range f.own {
			count++
			literals := slices.Clone(clause)
			for i := range literals {
				literals[i] += r.circuit.latchLiteral(0)
			}
			if !known[fmt.Sprint(literals)] {
				t.Fatalf("frame %d does not know %v", level, clause)
			}
		}
	}
	if count != len(known) {
		t.Fatalf("frame %d knows %d clauses, of which %d have a place", level, len(known), count)
	}
}

func checkNewestIsClear(t *testing.T, r *run) {
	t.Helper()
	for state := 0; state < 1<<len(r.circuit.latches); state++ {
		for input := 0; input < 1<<r.circuit.inputs; input++ {
			if _, bad := r.circuit.Step(state, input); bad && r.has(len(r.frames)-1, state) {
				t.Fatalf("the newest of %d frames has state %d, in which the bad can be", len(r.frames), state)
			}
		}
	}
}

func frameFiles() []string {
	return []string{
		"aag 1 0 1 1 0\n2 3\n2\n",
		"aag 1 0 1 1 0\n2 2\n2\n",
		"aag 0 0 0 1 0\n0\n",
		// a counter, up to 7
		"aag 9 0 3 0 6 1\n2 3\n4 12\n6 18\n14\n8 4 2\n10 5 3\n12 11 9\n14 8 6\n16 9 7\n18 17 15\n",
		// a row of four, the first one of which becomes the last one, negated
		"aag 6 0 4 0 2 1\n2 9\n4 2\n6 4\n8 6\n12\n10 2 5\n12 10 6\n",
		// the same with an input that lets the first one stay
		"aag 10 1 4 0 5 1\n2\n4 17\n6 4\n8 6\n10 8\n20\n12 4 2\n14 11 3\n16 15 13\n18 4 7\n20 18 8\n",
	}
}

func TestFramesMoveByMove(t *testing.T) {
	for _, file := range frameFiles() {
		followRun(t, file)
	}
}

// What a run has spent is its solvers' conflicts, and one for each state that was to be barred from a frame.
func TestRunCounts(t *testing.T) {
	for _, file := range frameFiles() {
		c, _ := Read(file)
		r := newRun(c, api.Enough)
		r.decide()
		barred := r.spent
		for _, f := range r.frames {
			barred -= f.solver.Conflicts()
		}
		known := len(r.way)
		for _, f := range r.frames {
			known += len(f.own)
		}
		if barred < known || barred > len(r.frames)<<c.NLatch() {
			t.Errorf("of %q %d are spent, %d of them not on conflicts; %d frames, %d clauses and moves", file, r.spent, barred, len(r.frames), known)
		}
	}
}

// A clause is no longer than what a core and the first states ask for.
func TestShortened(t *testing.T) {
	// the literals of what latches become: 20, 22, 22, 1
	c := &Circuit{latches: []latch{{20, api.Reset0}, {22, api.Reset1}, {22, api.ResetAny}, {1, api.Reset0}}}
	for _, x := range []struct {
		state int
		core  []int
		want  []int
	}{
		{0b1111, []int{20}, []int{1}},
		{0b1111, []int{1}, []int{7}},
		{0b1111, []int{20, 1}, []int{1, 7}},
		{0b1111, []int{1, 20}, []int{1, 7}},
		// of two latches that become the same the first; it lacks what first states ask for
		{0b1111, []int{22}, []int{1, 3}},
		{0b0111, []int{22}, []int{1, 3}},
		{0b1110, []int{22}, []int{3, 7}},
		{0b1001, []int{23}, []int{2}},
		{0b1101, []int{23}, []int{2}},
		{0b1101, []int{22, 23}, []int{2, 5}},
		{0b1011, []int{22, 23}, []int{1, 3, 4}},
		{0b1000, []int{21}, []int{0, 2}},
		{0b1010, []int{21, 22}, []int{0, 3, 7}},
		{0b0001, nil, []int{1}},
		{0b1010, nil, []int{7}},
	} {
		clause := c.clauseAgainst(x.state)
		if got := c.shortened(clause, x.core); !slices.Equal(got, x.want) {
			t.Errorf("against %b, with the core %v: %v, want %v", x.state, x.core, got, x.want)
		}
	}
}
