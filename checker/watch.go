package checker

// load takes over a solver's clauses. It tells one that cannot be true, or noClause.
func (q *search) load(clauses [][]int) int {
	clash := noClause
	for k := 0; k < len(clauses); k++ {
		literals := clauses[k]
		if len(literals) > 1 {
			q.attach(clause{literals: literals, left: literals[0], right: literals[1]})
			continue
		}
		q.clauses = append(q.clauses, clause{literals: literals})
		if len(literals) == 0 || q.holds[literals[0]^1] {
			clash = k
		} else if !q.holds[literals[0]] {
			q.set(literals[0], k)
		}
	}
	q.given = len(clauses)
	return clash
}

// attach adds a clause of two literals or more.
func (q *search) attach(c clause) {
	q.clauses = append(q.clauses, c)
	q.enter(len(q.clauses) - 1)
}

// enter enters a clause in the lists of its two watched literals.
func (q *search) enter(k int) {
	left := q.clauses[k].left
	right := q.clauses[k].right
	q.watchers[left] = append(q.watchers[left], k)
	q.watchers[right] = append(q.watchers[right], k)
}

// draw draws what follows from the trail. It tells a clause that cannot be true, or noClause.
func (q *search) draw() int {
	clash := noClause
	for clash == noClause && q.drawn < len(q.trail) {
		fallen := q.trail[q.drawn] ^ 1
		q.drawn++
		clash = q.visit(fallen)
	}
	return clash
}

// visit goes through the clauses that watch a literal which has become false. It tells one that cannot be true, or noClause.
func (q *search) visit(fallen int) int {
	list := q.watchers[fallen]
	clash := noClause
	kept := 0
	for i := 0; i < len(list); i++ {
		k := list[i]
		moved := q.lookElsewhere(k, fallen)
		if moved {
			continue
		}
		list[kept] = k
		kept++
		left := q.clauses[k].left
		if q.holds[left^1] {
			clash = k
		} else if !q.holds[left] {
			q.set(left, k)
		}
	}
	q.watchers[fallen] = list[:kept]
	return clash
}

// lookElsewhere has a clause watch another literal in place of one that is false, and tells whether it does. If not, the left one is true or the last that can be.
func (q *search) lookElsewhere(k int, fallen int) bool {
	if q.clauses[k].left == fallen {
		q.clauses[k].left = q.clauses[k].right
		q.clauses[k].right = fallen
	}
	left := q.clauses[k].left
	if q.holds[left] {
		return false
	}
	literals := q.clauses[k].literals
	for i := 0; i < len(literals); i++ {
		other := literals[i]
		if other != left && !q.holds[other^1] {
			q.clauses[k].right = other
			q.watchers[other] = append(q.watchers[other], k)
			return true
		}
	}
	return false
}
