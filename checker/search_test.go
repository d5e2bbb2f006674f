package checker_test

import (
	"testing"

	"circheck/api"
	"circheck/checker"
)

// pigeons adds: so many are laid in one place fewer, at most one in each. That cannot be.
func pigeons(j *judge, count int) {
	first := j.vars
	at := func(pigeon, hole int) int { return 2 * (first + pigeon*(count-1) + hole) }
	for k := 0; k < count*(count-1); k++ {
		j.newVar(k%3 == 0)
	}
	for p := 0; p < count; p++ {
		var somewhere []int
		for h := 0; h < count-1; h++ {
			somewhere = append(somewhere, at(p, h))
			for q := 0; q < p; q++ {
				j.add(at(p, h)+1, at(q, h)+1)
			}
		}
		j.add(somewhere...)
	}
}

// P10, P11

func TestQuestionsByTrying(t *testing.T) {
	met := map[checker.Answer]int{}
	for seed := 0; seed < 400; seed++ {
		d := &dice{state: uint64(seed)}
		j := newJudge(t, d.below(10))
		for round := 0; round < 40; round++ {
			wander(j, d)
			as := list(d, d.below(4), 2*j.vars)
			budget := api.Enough
			if d.below(2) == 0 {
				budget = d.below(3)
			}
			a := j.ask(as, budget)
			if a == checker.Unsat && possible(j.vars, j.withCore()) {
				t.Fatalf("P10: Unsat of %v with %v, core %v: but that can be", j.clauses, as, j.core)
			}
			met[a]++
		}
	}
	for _, a := range []checker.Answer{checker.Sat, checker.Unsat, checker.Spent} {
		if met[a] < 50 {
			t.Errorf("the questions are too alike: %d answers %d", met[a], a)
		}
	}
}

// wander adds a variable, or clauses, or tries to add what cannot be.
func wander(j *judge, d *dice) {
	switch d.below(8) {
	case 0:
		if j.vars < 9 {
			j.newVar(d.below(2) == 0)
		}
	case 1:
		j.refused(append(list(d, d.below(3), 2*j.vars), 2*j.vars+d.below(5))...)
	default:
		for k := d.below(3); k > 0; k-- {
			if l := list(d, 2+d.below(3), 2*j.vars); len(l) > 0 {
				j.add(l...)
			}
		}
	}
}

// list is so many literals, or none if there is none below the end.
func list(d *dice, length, end int) []int {
	var l []int
	for len(l) < length && end > 0 {
		l = append(l, d.below(end))
	}
	return l
}

func TestPigeons(t *testing.T) {
	for count := 2; count <= 8; count++ {
		j := newJudge(t, 0)
		pigeons(j, count)
		if a := j.ask(nil, api.Enough); a != checker.Unsat || j.core != nil {
			t.Errorf("P10: %d in %d: %d, core %v, want Unsat, nil", count, count-1, a, j.core)
		}
	}
}

func TestPigeonsIfAllAreLaid(t *testing.T) {
	const count = 6
	j := newJudge(t, count)
	at := func(pigeon, hole int) int { return 2 * (count + pigeon*(count-1) + hole) }
	for j.vars < count*count {
		j.newVar(false)
	}
	var as []int
	for p := 0; p < count; p++ {
		somewhere := []int{2*p + 1}
		for h := 0; h < count-1; h++ {
			somewhere = append(somewhere, at(p, h))
			for q := 0; q < p; q++ {
				j.add(at(p, h)+1, at(q, h)+1)
			}
		}
		j.add(somewhere...)
		as = append(as, 2*p)
	}
	if a := j.ask(as, api.Enough); a != checker.Unsat || len(j.core) != count {
		t.Errorf("P10: each is needed: %d, core %v, want Unsat, %v", a, j.core, as)
	}
	for p := range as {
		as[p]++
		if a := j.ask(as, api.Enough); a != checker.Sat {
			t.Errorf("P10: without %d: %d, want Sat", p, a)
		}
		as[p]--
	}
}

// A question of so many conflicts forgets some of what it has learned.
func TestLongQuestion(t *testing.T) {
	j := newJudge(t, 0)
	pigeons(j, 9)
	if a := j.ask(nil, api.Enough); a != checker.Unsat || j.s.Conflicts() < 5000 {
		t.Errorf("P10: nine in eight: %d behind %d conflicts, want Unsat", a, j.s.Conflicts())
	}
	k := newJudge(t, 0)
	pigeons(k, 14)
	for _, budget := range []int{20000, 0, 1} {
		if a := k.ask([]int{0}, budget); a != checker.Spent {
			t.Errorf("P10: fourteen in thirteen, with budget %d: %d, want Spent", budget, a)
		}
	}
}

// Clauses that were given are not forgotten, however many there are.
func TestManyClauses(t *testing.T) {
	j := newJudge(t, 0)
	pigeons(j, 6)
	for k := 0; k < 20; k++ {
		j.newVar(true)
	}
	for k := 0; k < 5000; k++ {
		j.add(60+2*(k%20), 60+2*(k%19), 60+2*(k%17))
	}
	if a := j.ask(nil, api.Enough); a != checker.Unsat {
		t.Errorf("P9: six in five, and many other clauses: %d, want Unsat", a)
	}
}

func TestManyVariables(t *testing.T) {
	for seed := 0; seed < 6; seed++ {
		d := &dice{state: uint64(seed)}
		j := newJudge(t, api.MaxVars)
		way := make([]bool, j.vars)
		for v := range way {
			way[v] = d.below(2) == 0
		}
		for len(j.clauses) < 4*j.vars {
			if l := list(d, 3, 2*j.vars); hold(way, l) {
				j.add(l...)
			}
		}
		if a := j.ask(nil, api.Enough); a != checker.Sat {
			t.Errorf("P10: there is a way (seed %d), but %d", seed, a)
		}
		for k := 0; k < 30; k++ {
			checkHardQuestion(t, j, list(d, d.below(30), 2*j.vars))
		}
	}
}

// checkHardQuestion checks an Unsat, which cannot be tried, by another solver that has the core as clauses.
func checkHardQuestion(t *testing.T, j *judge, as []int) {
	t.Helper()
	if a := j.ask(as, api.Enough); a != checker.Unsat {
		return
	}
	other := newJudge(t, j.vars)
	for _, c := range j.withCore() {
		other.add(c...)
	}
	if a := other.ask(nil, api.Enough); a != checker.Unsat {
		t.Errorf("P10: Unsat of %v, core %v, but with the core's members as clauses: %d", as, j.core, a)
	}
}

// Each variable follows from the one ahead of it: one long row, to be drawn from either end.
func TestRow(t *testing.T) {
	j := newJudge(t, api.MaxVars)
	last := 2 * (j.vars - 1)
	for l := 0; l < last; l += 2 {
		j.add(l+1, l+2)
	}
	if a := j.ask([]int{100, 0}, 0); a != checker.Sat || !j.values[j.vars-1] {
		t.Errorf("P10: a row from the front: %d, want Sat, the last true", a)
	}
	if a := j.ask([]int{last + 1}, 0); a != checker.Sat || j.values[0] {
		t.Errorf("P10: a row from the end: %d, want Sat, the first false", a)
	}
	if a := j.ask([]int{8, 60, last + 1}, 0); a != checker.Unsat || len(j.core) < 2 {
		t.Errorf("P10: a row from both ends: %d, core %v, want Unsat", a, j.core)
	}
	checkHardQuestion(t, j, []int{8, 60, last + 1})
	j.add(0)
	if a := j.ask([]int{last + 1}, 0); a != checker.Unsat || len(j.core) != 1 {
		t.Errorf("P10: a row that is bound at the front: %d, core %v, want Unsat, [%d]", a, j.core, last+1)
	}
	j.add(last + 1)
	if a := j.ask(nil, 0); a != checker.Unsat || j.core != nil {
		t.Errorf("P10: a row that is bound at both ends: %d, core %v, want Unsat, nil", a, j.core)
	}
}
