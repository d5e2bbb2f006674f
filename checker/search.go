package checker

// noClause and noVariable stand where there is none.
const (
	noClause   = -1
	noVariable = -1
)

// search is one question while it is being answered. It guesses literals, level by level (the first levels: what is assumed), draws what follows from each guess, and learns a clause from each conflict.
type search struct {
	assumed  []int
	clauses  []clause
	given    int     // how many of the clauses were not learned
	room     int     // how many learned clauses there may be
	watchers [][]int // of each literal: the clauses that watch it
	holds    []bool  // of each literal: whether it is true
	vars     []variable
	trail    []int // the literals that are true, in the order in which they became so
	starts   []int // of each level but 0: where it begins in the trail
	drawn    int   // of so many of the trail what follows has been drawn
	bonus    int   // what a variable's weight gains from a conflict
	met      int   // conflicts
	core     []int // behind Unsat
}

// clause: its literals are only read, as they may be a solver's. Two of them are watched: as long as neither is false nothing follows.
type clause struct {
	literals []int
	left     int // watched
	right    int // watched
	span     int // of a learned clause: over how many levels its literals were spread
}

// variable: level and reason have a meaning while it has a value.
type variable struct {
	level  int
	reason int  // the clause that its value follows from, or noClause
	marked bool // while a conflict is traced
	weight int  // the heaviest is guessed first
	last   bool // the value that it had last, which is guessed first
}

// newSearch begins a question.
func newSearch(early []bool, assumed []int) *search {
	q := &search{assumed: assumed, room: mostLearned, bonus: firstBonus}
	q.watchers = make([][]int, 2*len(early))
	q.holds = make([]bool, 2*len(early))
	q.vars = make([]variable, len(early))
	for v := 0; v < len(early); v++ {
		if early[v] {
			q.vars[v].weight = headStart
		}
	}
	return q
}

// answer decides the question. It ends: a conflict adds a literal to a level below the newest one, and takes back only what is above that level; so the numbers of literals, level by level, never come twice.
func (q *search) answer(clauses [][]int, budget int) Answer {
	clash := q.load(clauses)
	known := None
	for known == None {
		if clash == noClause {
			clash = q.draw()
		}
		if clash == noClause {
			known = q.guess()
		} else {
			known = q.meet(clash, budget)
			clash = noClause
		}
	}
	return known
}

// meet deals with a conflict. It tells the answer if that is known now, else None.
func (q *search) meet(clash int, budget int) Answer {
	q.met++
	nothingGuessed := len(q.starts) <= len(q.assumed)
	if nothingGuessed {
		q.blame(q.clauses[clash].literals)
		return Unsat
	}
	if q.met > budget {
		return Spent
	}
	q.learn(clash)
	return None
}

// guess opens a level. It tells the answer if that is known now, else None.
func (q *search) guess() Answer {
	level := len(q.starts)
	if level < len(q.assumed) {
		return q.assume(q.assumed[level])
	}
	v := q.heaviest()
	if v == noVariable {
		return Sat
	}
	literal := 2 * v
	if !q.vars[v].last {
		literal++
	}
	q.starts = append(q.starts, len(q.trail))
	q.set(literal, noClause)
	return None
}

// assume opens a level for an assumption, an empty one where it is true already.
func (q *search) assume(literal int) Answer {
	if q.holds[literal^1] {
		q.blame([]int{literal})
		q.core = append(q.core, literal)
		return Unsat
	}
	q.starts = append(q.starts, len(q.trail))
	if !q.holds[literal] {
		q.set(literal, noClause)
	}
	return None
}

// heaviest tells which variable to guess: of those without a value the heaviest.
func (q *search) heaviest() int {
	best := noVariable
	for v := 0; v < len(q.vars); v++ {
		if q.holds[2*v] || q.holds[2*v+1] {
			continue
		}
		if best == noVariable || q.vars[v].weight > q.vars[best].weight {
			best = v
		}
	}
	return best
}

// set makes a literal true that has no value yet.
func (q *search) set(literal int, reason int) {
	v := literal >> 1
	q.holds[literal] = true
	q.vars[v].level = len(q.starts)
	q.vars[v].reason = reason
	q.vars[v].last = literal&1 == 0
	q.trail = append(q.trail, literal)
}

// back takes back all levels above one.
func (q *search) back(level int) {
	if level >= len(q.starts) {
		return
	}
	start := q.starts[level]
	for i := start; i < len(q.trail); i++ {
		q.holds[q.trail[i]] = false
	}
	q.trail = q.trail[:start]
	q.starts = q.starts[:level]
	q.drawn = start
}

// model tells each variable's value.
func (q *search) model() []bool {
	values := []bool{}
	for v := 0; v < len(q.vars); v++ {
		values = append(values, q.holds[2*v])
	}
	return values
}
