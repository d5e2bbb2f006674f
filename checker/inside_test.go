package checker

import (
	"math/rand"
	"slices"
	"testing"
)

// These tests look inside a search: what they check hardly shows from without, only as questions that take too long, or as a wrong answer once in a great while.

// follow answers a question as answer does, and looks at the search behind each move.
func follow(t *testing.T, q *search, clauses [][]int) Answer {
	t.Helper()
	clash := q.load(clauses)
	known := None
	for known == None && !t.Failed() {
		if clash == noClause {
			clash = q.draw()
		}
		if clash == noClause {
			checkDrawn(t, q)
			known = q.guess()
		} else {
			checkClash(t, q, clash)
			known = q.meet(clash, 1<<60)
			if known == None {
				checkLearned(t, q, clauses)
			}
			clash = noClause
		}
		checkTrail(t, q)
	}
	return known
}

// free tells how many literals of a clause are not false, and whether one is true.
func free(q *search, literals []int) (int, bool) {
	count, one := 0, false
	for _, l := range literals {
		if !q.holds[l^1] {
			count++
		}
		one = one || q.holds[l]
	}
	return count, one
}

// checkDrawn: nothing follows any more.
func checkDrawn(t *testing.T, q *search) {
	t.Helper()
	for k, c := range q.clauses {
		if count, one := free(q, c.literals); !one && count < 2 {
			t.Fatalf("clause %d, %v, has %d literals that can be true, and nothing was drawn from it", k, c.literals, count)
		}
	}
}

func checkClash(t *testing.T, q *search, clash int) {
	t.Helper()
	if count, _ := free(q, q.clauses[clash].literals); count > 0 {
		t.Fatalf("%v is no clash", q.clauses[clash].literals)
	}
}

// checkTrail: each value stands once, on its level, and follows from what is ahead of it.
func checkTrail(t *testing.T, q *search) {
	t.Helper()
	place := map[int]int{}
	for at, l := range q.trail {
		level, _ := slices.BinarySearch(q.starts, at+1)
		if !q.holds[l] || q.holds[l^1] || q.vars[l/2].level != level {
			t.Fatalf("literal %d at %d of the trail: true %v, false %v, level %d, want %d", l, at, q.holds[l], q.holds[l^1], q.vars[l/2].level, level)
		}
		place[l] = at
		if level > 0 && q.vars[l/2].reason != noClause {
			checkReason(t, q, l, place)
		}
	}
	if len(place) != len(q.trail) {
		t.Fatalf("a literal stands twice in the trail %v", q.trail)
	}
	for l := range q.holds {
		if _, there := place[l]; q.holds[l] && !there {
			t.Fatalf("literal %d is true, but does not stand in the trail", l)
		}
	}
}

func checkReason(t *testing.T, q *search, literal int, place map[int]int) {
	t.Helper()
	reason := q.clauses[q.vars[literal/2].reason].literals
	if !slices.Contains(reason, literal) {
		t.Fatalf("%v is no reason of %d", reason, literal)
	}
	for _, l := range reason {
		if _, ahead := place[l^1]; l != literal && !ahead {
			t.Fatalf("%v is no reason of %d, as %d is not false ahead of it", reason, literal, l)
		}
	}
}

// checkLearned: what was learned follows from what was given, of which nothing is lost.
func checkLearned(t *testing.T, q *search, clauses [][]int) {
	t.Helper()
	last := q.trail[len(q.trail)-1]
	learned := []int{last}
	if reason := q.vars[last/2].reason; reason != noClause {
		learned = q.clauses[reason].literals
	}
	against := slices.Clone(clauses)
	for _, l := range learned {
		against = append(against, []int{l ^ 1})
	}
	if canBe(len(q.vars), against) {
		t.Fatalf("%v was learned, but does not follow from %v", learned, clauses)
	}
	for k, c := range clauses {
		if !slices.Equal(q.clauses[k].literals, c) {
			t.Fatalf("the clause %v is lost: %v", c, q.clauses[k].literals)
		}
	}
}

// canBe tells by trying whether clauses can be true together.
func canBe(vars int, clauses [][]int) bool {
	for way := 0; way < 1<<vars; way++ {
		isFalse := func(l int) bool { return way>>(l/2)&1 == l%2 }
		if !slices.ContainsFunc(clauses, func(c []int) bool {
			return !slices.ContainsFunc(c, func(l int) bool { return !isFalse(l) })
		}) {
			return true
		}
	}
	return false
}

func TestSearchMoveByMove(t *testing.T) {
	conflicts := 0
	for seed := int64(0); seed < 300 && !t.Failed(); seed++ {
		dice := rand.New(rand.NewSource(seed))
		vars := 8 + dice.Intn(5)
		var clauses [][]int
		for k := 0; k < 4*vars; k++ {
			var c []int
			for _, v := range dice.Perm(vars)[:3] {
				c = append(c, 2*v+dice.Intn(2))
			}
			clauses = append(clauses, c)
		}
		q := newSearch(make([]bool, vars), []int{dice.Intn(2 * vars)})
		q.room = 1 + dice.Intn(6)
		all := append(slices.Clone(clauses), q.assumed)
		if a := follow(t, q, clauses); (a == Sat) != canBe(vars, all) {
			t.Errorf("seed %d: %d of %v with %v", seed, a, clauses, q.assumed)
		}
		conflicts += q.met
	}
	if conflicts < 500 {
		t.Errorf("only %d conflicts", conflicts)
	}
}

func TestWhatIsLearned(t *testing.T) {
	for _, s := range []struct {
		clauses [][]int
		want    []int
	}{
		// Both literals of the clash hang on 2: the guess ahead of it does not matter.
		{[][]int{{0, 2}, {3, 4}, {3, 6}, {5, 7}}, []int{3}},
		// 3 follows from the first guess, and from what is always so: it is needless.
		{[][]int{{8}, {0, 3, 9}, {0, 2, 4, 6}, {0, 2, 4, 7}}, []int{4, 0}},
		// 3 follows from nothing: it is needed.
		{[][]int{{0, 2, 4, 6}, {0, 2, 4, 7}}, []int{4, 0, 2}},
	} {
		q := newSearch(make([]bool, 5), nil)
		clash := q.load(s.clauses)
		for known := None; known == None && clash == noClause; clash = q.draw() {
			known = q.guess()
		}
		if clash == noClause {
			t.Fatalf("%v: no conflict", s.clauses)
		}
		if learned := q.barring(q.trace(clash)); !slices.Equal(learned, s.want) {
			t.Errorf("from %v %v is learned, want %v", s.clauses, learned, s.want)
		}
	}
}

func TestGuessesAreRepeated(t *testing.T) {
	for _, literal := range []int{2, 3} {
		q := newSearch([]bool{false, true}, nil)
		q.starts = append(q.starts, 0)
		q.set(literal, noClause)
		q.back(0)
		q.guess()
		if !slices.Equal(q.trail, []int{literal}) {
			t.Errorf("%v is guessed, want %d again", q.trail, literal)
		}
	}
}

func TestLittleIsKept(t *testing.T) {
	s := New()
	for v := 0; v < 3; v++ {
		s.NewVar(false)
	}
	s.Add([]int{2, 0, 4, 3})
	s.Add([]int{1, 0})
	if len(s.clauses) != 0 {
		t.Errorf("%v is kept, but always true", s.clauses)
	}
	for _, l := range [][]int{{0, 2}, {0, 3, 3}, {1, 4}, {1, 5}} {
		s.Add(l)
	}
	s.Solve(nil, 1000)
	want := [][]int{{0, 2}, {0, 3}, {1, 4}, {1, 5}}
	if !slices.EqualFunc(s.clauses, want, slices.Equal[[]int]) {
		t.Errorf("behind a question %v is kept, want %v", s.clauses, want)
	}
}

// However long a question is, little of what it has learned is there at a time: half of the room, the reasons, and one.
func TestLearnedClausesAreBounded(t *testing.T) {
	const count = 6 // to be laid in one place fewer
	at := func(k, place int) int { return 2 * (k*(count-1) + place) }
	var clauses [][]int
	for k := 0; k < count; k++ {
		var somewhere []int
		for place := 0; place < count-1; place++ {
			somewhere = append(somewhere, at(k, place))
			for other := 0; other < k; other++ {
				clauses = append(clauses, []int{at(k, place) + 1, at(other, place) + 1})
			}
		}
		clauses = append(clauses, somewhere)
	}
	q := newSearch(make([]bool, count*(count-1)), nil)
	q.room = 4
	most := q.room/2 + len(q.vars) + 1
	if a := q.answer(clauses, 1<<60); a != Unsat || q.met < 2*most || len(q.clauses)-q.given > most {
		t.Errorf("answer %d behind %d conflicts, with %d learned clauses", a, q.met, len(q.clauses)-q.given)
	}
}

func TestWhatIsForgotten(t *testing.T) {
	q := newSearch(make([]bool, 9), nil)
	q.room = 6
	q.load([][]int{{0, 2}, {1, 4}})
	for _, span := range []int{4, 2, 5, 3, 3, 4, 3} {
		q.attach(clause{literals: []int{6, 8}, left: 6, right: 8, span: span})
	}
	q.starts = append(q.starts, 0)
	q.set(6, 4) // the clause of span 5 is the reason
	q.makeRoom()
	var spans []int
	for _, c := range q.clauses {
		spans = append(spans, c.span)
	}
	if want := []int{0, 0, 2, 5, 3, 3}; !slices.Equal(spans, want) {
		t.Errorf("clauses of the spans %v stay, want %v", spans, want)
	}
	if q.vars[3].reason != 3 {
		t.Errorf("the reason is clause %d, want 3", q.vars[3].reason)
	}
	watchers := [][]int{{0}, {1}, {0}, nil, {1}, nil, {2, 3, 4, 5}, nil, {2, 3, 4, 5}}
	for l, want := range watchers {
		if !slices.Equal(q.watchers[l], want) {
			t.Errorf("clauses %v watch %d, want %v", q.watchers[l], l, want)
		}
	}
}

func TestSpans(t *testing.T) {
	q := newSearch(make([]bool, 6), nil)
	for v, level := range []int{7, 1, 1, 2, 5, 5} {
		q.vars[v].level = level
	}
	for _, s := range []struct {
		literals []int
		want     int
	}{{[]int{0}, 1}, {[]int{1, 3}, 2}, {[]int{0, 2, 5}, 2}, {[]int{0, 2, 6}, 3}, {[]int{1, 2, 4, 6, 8, 10}, 4}} {
		if span := q.spanOf(s.literals); span != s.want {
			t.Errorf("%v has the span %d, want %d", s.literals, span, s.want)
		}
	}
}

// Weights keep their order, and do not overflow in a question of however many conflicts.
func TestWeights(t *testing.T) {
	q := newSearch([]bool{false, true, false, false}, nil)
	if v := q.heaviest(); v != 1 {
		t.Errorf("first of all %d is guessed, want 1, which is early", v)
	}
	for v := range q.vars {
		q.vars[v].level = 1
	}
	for k := 0; k < 10000; k++ {
		now := 2 + k%2
		q.mark([]int{2 * now, 2*now ^ 1})
		q.clearMarks()
		q.raiseBonus()
		if v := q.heaviest(); v != now {
			t.Fatalf("behind %d conflicts %d is guessed, want %d", k+1, v, now)
		}
		if q.bonus < firstBonus || q.bonus > mostBonus || q.vars[now].weight > 20*mostBonus {
			t.Fatalf("behind %d conflicts the bonus is %d, a weight %d", k+1, q.bonus, q.vars[now].weight)
		}
	}
}
