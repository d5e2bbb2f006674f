package checker_test

import (
	"slices"
	"testing"

	"circheck/api"
	"circheck/checker"
)

// judge is a solver with all that it was told, so that its answers can be judged.
type judge struct {
	t       *testing.T
	s       *checker.Solver
	vars    int
	clauses [][]int
	values  []bool // as they were behind the last answer
	core    []int
}

func newJudge(t *testing.T, vars int) *judge {
	t.Helper()
	j := &judge{t: t, s: checker.New()}
	for j.vars < vars {
		j.newVar(j.vars%2 == 0)
	}
	return j
}

func (j *judge) newVar(early bool) {
	j.t.Helper()
	before := j.s.Conflicts()
	v, e := j.s.NewVar(early)
	if v != j.vars || e != api.OK {
		j.t.Fatalf("P8: NewVar() = %d, %d, want %d", v, e, j.vars)
	}
	j.vars++
	j.checkKept("NewVar", before)
}

func (j *judge) add(l ...int) {
	j.t.Helper()
	before := j.s.Conflicts()
	given := slices.Clone(l)
	if e := j.s.Add(given); e != api.OK {
		j.t.Fatalf("P9: Add(%v) = %d", l, e)
	}
	if !slices.Equal(given, l) {
		j.t.Fatalf("P9: Add(%v) has made it %v", l, given)
	}
	for i := range given {
		given[i] = -5
	}
	j.clauses = append(j.clauses, slices.Clone(l))
	j.checkKept("Add", before)
}

// refused checks that a list is refused by Add and Solve, and that nothing changes.
func (j *judge) refused(l ...int) {
	j.t.Helper()
	before := j.s.Conflicts()
	if e := j.s.Add(l); e != api.ErrInval {
		j.t.Errorf("P9: Add(%v) = %d with %d variables, want ErrInval", l, e, j.vars)
	}
	j.checkKept("Add, refused,", before)
	if a := j.s.Solve(l, api.Enough); a != checker.None {
		j.t.Errorf("P10: Solve(%v) = %d with %d variables, want None", l, a, j.vars)
	}
	if a := j.s.Solve(nil, -1); a != checker.None {
		j.t.Errorf("P10: Solve(nil, -1) = %d, want None", a)
	}
	j.checkKept("Solve, refused,", before)
}

// checkKept checks that values, core and conflicts are what they were.
func (j *judge) checkKept(call string, conflicts int) {
	j.t.Helper()
	if now := j.s.Conflicts(); now != conflicts {
		j.t.Fatalf("P11: behind %s %d conflicts, %d ahead of it", call, now, conflicts)
	}
	if n := j.s.NVars(); n != j.vars {
		j.t.Fatalf("P8: behind %s NVars() = %d, want %d", call, n, j.vars)
	}
	j.checkValues(call)
	j.checkCore(call)
}

func (j *judge) checkValues(call string) {
	j.t.Helper()
	for v := -1; v <= j.vars; v++ {
		want, wantE := false, api.ErrInval
		if v >= 0 && v < len(j.values) {
			want, wantE = j.values[v], api.OK
		}
		if b, e := j.s.Value(v); b != want || e != wantE {
			j.t.Fatalf("P11: behind %s Value(%d) = %v, %d, want %v, %d", call, v, b, e, want, wantE)
		}
	}
}

func (j *judge) checkCore(call string) {
	j.t.Helper()
	core := j.s.Core()
	if !slices.Equal(core, j.core) || (len(core) == 0 && core != nil) {
		j.t.Fatalf("P10: behind %s Core() = %#v, want %v", call, core, j.core)
	}
	for i := range core {
		core[i] = -7
	}
	if again := j.s.Core(); !slices.Equal(again, j.core) {
		j.t.Fatalf("P10: a core is the caller's, but to change it changes the next one: %v", again)
	}
}

// ask asks a question, and judges all of the answer but whether Unsat is right of the clauses with the core.
func (j *judge) ask(as []int, budget int) checker.Answer {
	j.t.Helper()
	before := j.s.Conflicts()
	given := slices.Clone(as)
	answer := j.s.Solve(given, budget)
	if !slices.Equal(given, as) {
		j.t.Fatalf("P10: Solve(%v) has made it %v", as, given)
	}
	met := j.s.Conflicts() - before
	if met < 0 || met-1 > budget {
		j.t.Fatalf("P11: with budget %d a question has added %d conflicts", budget, met)
	}
	j.values, j.core = nil, nil
	switch answer {
	case checker.Sat:
		j.takeValues(as)
	case checker.Unsat:
		j.takeCore(as)
	case checker.Spent:
		if met-1 != budget {
			j.t.Fatalf("P10: with budget %d Spent behind %d conflicts", budget, met)
		}
	default:
		j.t.Fatalf("P10: Solve(%v, %d) = %d", as, budget, answer)
	}
	j.checkKept("Solve", before+met)
	return answer
}

func (j *judge) takeValues(as []int) {
	j.t.Helper()
	for v := 0; v < j.vars; v++ {
		b, e := j.s.Value(v)
		if e != api.OK {
			j.t.Fatalf("P10: behind Sat Value(%d) has the error %d", v, e)
		}
		j.values = append(j.values, b)
	}
	for _, l := range as {
		if !hold(j.values, []int{l}) {
			j.t.Fatalf("P10: Sat, but the values %v make the assumption %d false", j.values, l)
		}
	}
	for _, c := range j.clauses {
		if !hold(j.values, c) {
			j.t.Fatalf("P10: Sat, but the values %v make the clause %v false", j.values, c)
		}
	}
}

func (j *judge) takeCore(as []int) {
	j.t.Helper()
	j.core = j.s.Core()
	for _, l := range j.core {
		if !slices.Contains(as, l) {
			j.t.Fatalf("P10: %d of the core %v is not assumed: %v", l, j.core, as)
		}
	}
}

// withCore is all clauses, and the members of the core.
func (j *judge) withCore() [][]int {
	all := slices.Clone(j.clauses)
	for _, l := range j.core {
		all = append(all, []int{l})
	}
	return all
}

// hold tells whether values make a clause true.
func hold(values []bool, clause []int) bool {
	for _, l := range clause {
		if values[l/2] == (l%2 == 0) {
			return true
		}
	}
	return false
}

// possible tells by trying whether clauses over so many variables can be true together.
func possible(vars int, clauses [][]int) bool {
	values := make([]bool, vars)
	for way := 0; way < 1<<vars; way++ {
		for v := range values {
			values[v] = way>>v&1 == 1
		}
		if !slices.ContainsFunc(clauses, func(c []int) bool { return !hold(values, c) }) {
			return true
		}
	}
	return false
}
