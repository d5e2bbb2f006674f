package checker

import "circheck/api"

// undecided is the verdict of a run that goes on: Bad speaks of files alone.
const undecided = api.Bad

// run is a circuit while it is being decided. Frame k holds all states that are reached in at most k steps, and perhaps others; a step from one of its states leads into frame k + 1. The bad is true in no state of a frame but perhaps the newest one.
type run struct {
	circuit *Circuit
	budget  int
	spent   int     // conflicts, and states that were to be barred
	frames  []frame // frame 0: the first states
	way     []move  // to the bad, the last move first; empty but while a state is being barred, and behind Unsafe
	kept    [][]int // behind Safe: the clauses that every step keeps
}

// move: a state, and the inputs in it.
type move struct {
	state int
	input int
}

// newRun begins with the first states alone.
func newRun(c *Circuit, budget int) *run {
	r := &run{circuit: c, budget: budget}
	first := newFrame(c)
	first.addResets(c)
	r.frames = []frame{first}
	return r
}

// decide tells the verdict. It ends: as long as there is none each frame from 1 on has fewer states than the next one, as a frame with just as many would carry all its clauses on; so there is at most one frame more than states.
func (r *run) decide() api.Verdict {
	verdict := undecided
	for verdict == undecided {
		verdict = r.clearNewest()
		if verdict == undecided {
			verdict = r.advance()
		}
	}
	return verdict
}

// clearNewest bars states from the newest frame until the bad is true in none of its states. It ends: each round bars a state for good.
func (r *run) clearNewest() api.Verdict {
	newest := len(r.frames) - 1
	for {
		answer := r.ask(newest, []int{r.circuit.bad})
		switch answer {
		case Spent:
			return api.Unknown
		case Unsat:
			return undecided
		}
		r.lengthen(newest)
		verdict := r.bar()
		if verdict != undecided {
			return verdict
		}
	}
}

// bar bars the state that the way began with from the newest frame, and first those that lead to it from the frames below; unless a way leads on to a first state. It ends: a state that is barred from a frame comes no more from that frame.
func (r *run) bar() api.Verdict {
	for len(r.way) > 0 {
		if r.spent > r.budget {
			return api.Unknown
		}
		level := len(r.frames) - len(r.way)
		state := r.way[len(r.way)-1].state
		// Both come to the same, as a shorter way would have been found before; the index needs the one, the clause the other.
		if level <= 0 || r.circuit.Begins(state) {
			return api.Unsafe
		}
		clause := r.circuit.clauseAgainst(state)
		assumed := r.circuit.broken(clause)
		answer := r.ask(level-1, assumed)
		switch answer {
		case Spent:
			return api.Unknown
		case Sat:
			r.lengthen(level - 1)
		case Unsat:
			core := r.frames[level-1].solver.Core()
			short := r.circuit.shortened(clause, core)
			r.learn(level, short)
			r.way = r.way[:len(r.way)-1]
		}
	}
	return undecided
}

// lengthen lays the move that a frame's solver has found ahead of the way.
func (r *run) lengthen(level int) {
	found := r.frames[level].found(r.circuit)
	r.way = append(r.way, found)
	r.spent++
}

// learn adds a clause to a frame and to those below, down to one that has it already. Not to frame 0: first states make it true as they are.
func (r *run) learn(level int, clause []int) {
	for k := level; k > 0; k-- {
		had := r.frames[k].drop(clause)
		if had {
			break
		}
		r.frames[k].add(r.circuit, clause)
	}
	r.frames[level].own = append(r.frames[level].own, clause)
}

// advance opens a frame, and carries clauses on. A frame that has nothing of its own left has the same states as the next one: no step leads out of them.
func (r *run) advance() api.Verdict {
	fresh := newFrame(r.circuit)
	r.frames = append(r.frames, fresh)
	for k := 1; k < len(r.frames)-1; k++ {
		answer := r.carry(k)
		switch answer {
		case Spent:
			return api.Unknown
		case Unsat:
			r.kept = r.clausesAbove(k)
			return api.Safe
		}
	}
	return undecided
}

// carry carries a frame's own clauses on to the next frame, up to one that a step from the frame breaks (Sat); Unsat, if there is none. Those behind it are left: to try them takes as much time as it saves.
func (r *run) carry(level int) Answer {
	for len(r.frames[level].own) > 0 {
		clause := r.frames[level].own[0]
		assumed := r.circuit.broken(clause)
		answer := r.ask(level, assumed)
		if answer != Unsat {
			return answer
		}
		r.learn(level+1, clause)
	}
	return Unsat
}

// clausesAbove tells all clauses of the frame above one.
func (r *run) clausesAbove(level int) [][]int {
	all := [][]int{}
	for k := level + 1; k < len(r.frames); k++ {
		all = append(all, r.frames[k].own...)
	}
	return all
}

// ask asks a frame's solver; no more is spent as yet than may be. An answer that costs more counts as Spent, whatever the solver says (P15).
func (r *run) ask(level int, assumed []int) Answer {
	solver := r.frames[level].solver
	before := solver.Conflicts()
	answer := solver.Solve(assumed, r.budget-r.spent)
	r.spent += solver.Conflicts() - before
	if r.spent > r.budget {
		return Spent
	}
	return answer
}
