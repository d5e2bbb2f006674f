package checker_test

import (
	"fmt"
	"math"
	"testing"

	"circheck/api"
	"circheck/checker"
)

// P8

func TestVariables(t *testing.T) {
	j := newJudge(t, 0)
	if n := j.s.NVars(); n != 0 {
		t.Errorf("P8: a new solver has %d variables", n)
	}
	for j.vars < api.MaxVars {
		j.newVar(j.vars%5 == 0)
	}
	for _, early := range []bool{true, false} {
		if v, e := j.s.NewVar(early); v != 0 || e != api.ErrFull {
			t.Errorf("P8: one variable too many: %d, %d, want 0, ErrFull", v, e)
		}
	}
	j.checkKept("a NewVar that has no room", 0)
	j.refused(2 * api.MaxVars)
	j.add(2*api.MaxVars - 1)
	if a := j.ask(nil, 0); a != checker.Sat {
		t.Errorf("P10: with MaxVars variables and a clause: %d, want Sat", a)
	}
}

func TestSolversAreApart(t *testing.T) {
	a, b := newJudge(t, 1), newJudge(t, 2)
	a.add()
	if got := b.ask([]int{2}, 0); got != checker.Sat {
		t.Errorf("P2: a clause of another solver matters: %d, want Sat", got)
	}
	if got := a.ask([]int{0}, 0); got != checker.Unsat {
		t.Errorf("P9: an empty clause: %d, want Unsat", got)
	}
	b.checkKept("a question to another solver", b.s.Conflicts())
}

// P9

func TestAddRefuses(t *testing.T) {
	wrong := [][]int{
		{-1}, {-2}, {4}, {5}, {0, 4}, {4, 0}, {0, 1, -1}, {2, 3, 5}, {2, 2, 4, 2},
		{math.MaxInt}, {math.MinInt}, {0, math.MinInt, 2}, {1 << 32}, {1<<32 + 2}, {-1 << 32},
	}
	j := newJudge(t, 2)
	for _, l := range wrong {
		j.refused(l...)
	}
	// Had a part of them been taken, 0 would have to be true.
	if a := j.ask([]int{1, 3}, 0); a != checker.Sat {
		t.Errorf("P9: behind lists that were refused: %d, want Sat", a)
	}
	for _, l := range wrong {
		j.refused(l...)
	}
	j.add(0)
	j.ask([]int{1, 3}, 0)
	for _, l := range wrong {
		j.refused(l...)
	}
	none := newJudge(t, 0)
	none.refused(0)
	none.refused(1)
}

func TestRefusedLiteralLater(t *testing.T) {
	j := newJudge(t, 1)
	j.refused(2)
	j.newVar(false)
	if a := j.ask([]int{3}, 0); a != checker.Sat {
		t.Errorf("P9: a clause that was refused binds a variable that came later: %d, want Sat", a)
	}
	j.add(2)
	if a := j.ask([]int{3}, 0); a != checker.Unsat {
		t.Errorf("P9: a clause of a variable that came later: %d, want Unsat", a)
	}
}

func TestEmptyClause(t *testing.T) {
	for _, l := range [][]int{nil, {}} {
		for vars := 0; vars < 3; vars++ {
			j := newJudge(t, vars)
			j.ask(nil, 0)
			j.add(l...)
			for _, budget := range []int{0, 1, api.Enough} {
				if a := j.ask(nil, budget); a != checker.Unsat {
					t.Errorf("P9: an empty clause with %d variables: %d, want Unsat", vars, a)
				}
			}
			j.newVar(true)
			j.add(0)
			if a := j.ask([]int{0}, api.Enough); a != checker.Unsat {
				t.Errorf("P9: an empty clause, and one more: %d, want Unsat", a)
			}
		}
	}
}

func TestOddClauses(t *testing.T) {
	j := newJudge(t, 3)
	j.add(0, 1)
	j.add(4, 2, 5, 2)
	for _, as := range [][]int{{0}, {1}, {3, 4}, {3, 5}} {
		if a := j.ask(as, 0); a != checker.Sat {
			t.Errorf("P9: a clause with a literal and its negation bars %v: %d", as, a)
		}
	}
	j.add(2, 2)
	j.add(5, 5, 5, 1, 1)
	if a := j.ask([]int{3}, 0); a != checker.Unsat {
		t.Errorf("P9: a doubled literal, and its negation assumed: %d, want Unsat", a)
	}
	if a := j.ask([]int{4, 0}, 0); a != checker.Unsat {
		t.Errorf("P9: two doubled literals, and their negations assumed: %d, want Unsat", a)
	}
	if a := j.ask([]int{4}, 0); a != checker.Sat {
		t.Errorf("P9: two doubled literals, and one negation assumed: %d, want Sat", a)
	}
}

func TestLongLists(t *testing.T) {
	j := newJudge(t, 2)
	long := make([]int, 1<<20)
	for i := range long {
		long[i] = 2 + i%2*-2
	}
	j.add(long...)
	if a := j.ask([]int{1}, 0); a != checker.Sat || !j.values[1] {
		t.Errorf("P9: a long list of two literals: %d", a)
	}
	if a := j.ask(long, 0); a != checker.Sat {
		t.Errorf("P10: a long list of assumptions: %d, want Sat", a)
	}
	long[len(long)-1] = 3
	if a := j.ask(long, 0); a != checker.Unsat {
		t.Errorf("P10: a long list of assumptions, the last against the first: %d, want Unsat", a)
	}
	long[len(long)-1] = 4
	j.refused(long...)
}

// P10, P11

func TestExample(t *testing.T) {
	j := newJudge(t, 2)
	j.add(0, 2)
	j.add(1, 2)
	if a := j.ask(nil, api.Enough); a != checker.Sat || !j.values[1] {
		t.Errorf("P10: Solve(nil) = %d, values %v, want Sat, variable 1 true", a, j.values)
	}
	if a := j.ask([]int{3}, api.Enough); a != checker.Unsat || len(j.core) != 1 {
		t.Errorf("P10: Solve([3]) = %d, core %v, want Unsat, [3]", a, j.core)
	}
	j.add(3)
	if a := j.ask(nil, api.Enough); a != checker.Unsat || j.core != nil {
		t.Errorf("P10: Solve(nil) = %d, core %v, want Unsat, nil", a, j.core)
	}
	j.refused(4)
}

func TestNothingAsked(t *testing.T) {
	j := newJudge(t, 3)
	j.checkKept("no question", 0)
	j.add(0)
	j.add(1)
	j.checkKept("no question, but clauses that cannot be", 0)
}

func TestNoVariables(t *testing.T) {
	j := newJudge(t, 0)
	for _, as := range [][]int{nil, {}} {
		if a := j.ask(as, 0); a != checker.Sat {
			t.Errorf("P10: no variables, no clauses: %d, want Sat", a)
		}
	}
	j.newVar(false)
	j.checkKept("a variable that came behind Sat", 0)
}

func TestAssumptionsBind(t *testing.T) {
	j := newJudge(t, 3)
	for _, as := range [][]int{{0}, {1}, {0, 0}, {1, 1, 1}, {5, 2, 0}, {0, 2, 5}, {4, 3, 4}} {
		if a := j.ask(as, 0); a != checker.Sat {
			t.Errorf("P10: Solve(%v) without clauses = %d, want Sat", as, a)
		}
	}
	for _, as := range [][]int{{0, 1}, {1, 0}, {2, 0, 3}, {0, 0, 1}, {5, 4, 2}} {
		if a := j.ask(as, 0); a != checker.Unsat || possible(3, j.withCore()) {
			t.Errorf("P10: Solve(%v) = %d, core %v", as, a, j.core)
		}
	}
	if a := j.ask(nil, 0); a != checker.Sat {
		t.Errorf("P10: what was assumed is still assumed in the next question: %d", a)
	}
}

func TestAnswersAreReplaced(t *testing.T) {
	j := newJudge(t, 4)
	j.add(0, 2)
	questions := []struct {
		as   []int
		want checker.Answer
	}{
		{nil, checker.Sat}, {[]int{1, 3}, checker.Unsat}, {[]int{4}, checker.Sat}, {[]int{5}, checker.Sat},
		{[]int{3, 1, 4}, checker.Unsat}, {[]int{6, 1, 3}, checker.Unsat}, {[]int{1}, checker.Sat},
	}
	for _, q := range questions {
		if a := j.ask(q.as, api.Enough); a != q.want {
			t.Errorf("P10: Solve(%v) = %d, want %d", q.as, a, q.want)
		}
		j.refused(-1)
		j.newVar(true)
		j.add(2*j.vars-1, 0)
		j.refused(2 * j.vars)
	}
}

func TestBudgets(t *testing.T) {
	whole := newJudge(t, 0)
	pigeons(whole, 5)
	if a := whole.ask(nil, api.Enough); a != checker.Unsat {
		t.Fatalf("P10: five in four: %d, want Unsat", a)
	}
	if a := whole.ask(nil, math.MaxInt); a != checker.Unsat {
		t.Errorf("P10: five in four, with the greatest budget: %d, want Unsat", a)
	}
	spent := 0
	for budget := 0; budget < 60; budget++ {
		j := newJudge(t, 0)
		pigeons(j, 5)
		j.ask([]int{0}, 0)
		if a := j.ask(nil, budget); a == checker.Spent {
			spent++
		} else if a != checker.Unsat {
			t.Errorf("P10: five in four, budget %d: %d", budget, a)
		}
		j.add(1)
		j.newVar(true)
		j.refused(-1)
		if a := j.ask(nil, api.Enough); a != checker.Unsat {
			t.Errorf("P10: five in four, behind a budget of %d: %d, want Unsat", budget, a)
		}
	}
	if spent == 0 {
		t.Errorf("P10: no budget was too small")
	}
}

// P1, P2

func TestNoSolver(t *testing.T) {
	var s *checker.Solver
	if v, e := s.NewVar(true); v != 0 || e == api.OK {
		t.Errorf("P1: NewVar without a solver: %d, %d", v, e)
	}
	if e := s.Add(nil); e != api.ErrInval {
		t.Errorf("P1: Add without a solver: %d", e)
	}
	if a := s.Solve(nil, 0); a != checker.None {
		t.Errorf("P1: Solve without a solver: %d", a)
	}
	if b, e := s.Value(0); b || e != api.ErrInval {
		t.Errorf("P1: Value without a solver: %v, %d", b, e)
	}
	if s.NVars() != 0 || s.Core() != nil || s.Conflicts() != 0 {
		t.Errorf("P1: a solver that is none has something")
	}
}

func TestNumbersOfNoVariable(t *testing.T) {
	j := newJudge(t, 2)
	j.ask(nil, 0)
	for _, v := range []int{-1, 2, 3, math.MaxInt, math.MinInt, 1 << 32, -1 << 32, 1 << 62} {
		if b, e := j.s.Value(v); b || e != api.ErrInval {
			t.Errorf("P11: Value(%d) = %v, %d, want false, ErrInval", v, b, e)
		}
	}
	for _, budget := range []int{-1, -2, math.MinInt} {
		if a := j.s.Solve(nil, budget); a != checker.None {
			t.Errorf("P10: Solve(nil, %d) = %d, want None", budget, a)
		}
	}
}

func TestSameCallsSameAnswers(t *testing.T) {
	for seed := 0; seed < 20; seed++ {
		first := play(t, seed)
		if again := play(t, seed); again != first {
			t.Errorf("P2: the same calls (seed %d) have other answers:\n%s\n%s", seed, first, again)
		}
	}
}

// play asks a solver questions, and tells all its answers.
func play(t *testing.T, seed int) string {
	d := &dice{state: uint64(seed)}
	j := newJudge(t, 20)
	told := ""
	for round := 0; round < 30; round++ {
		for k := 0; k < 4; k++ {
			j.add(d.below(40), d.below(40), d.below(40))
		}
		a := j.ask([]int{d.below(40), d.below(40)}, d.below(20))
		told += fmt.Sprintln(a, j.values, j.core, j.s.Conflicts())
	}
	return told
}
