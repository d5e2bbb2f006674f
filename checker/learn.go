package checker

// Weights are made smaller before they could overflow: a weight is at most some 17 times the bonus.
const (
	headStart  = 1 // of an early variable
	firstBonus = 16
	mostBonus  = 1 << 40
)

// learn adds a clause that would have barred the clash earlier, and goes back to where the clause's first literal follows from the others.
func (q *search) learn(clash int) {
	at := q.trace(clash)
	literals := q.barring(at)
	span := q.spanOf(literals)
	q.clearMarks()
	q.raiseBonus()
	if len(literals) == 1 {
		q.back(0)
		q.set(literals[0], noClause)
		return
	}
	last := literals[len(literals)-1]
	level := q.vars[last>>1].level
	q.back(level)
	q.makeRoom()
	q.attach(clause{literals: literals, left: literals[0], right: last, span: span})
	q.set(literals[0], len(q.clauses)-1)
}

// trace marks what a clash hangs on, the newest first, until all of it that is of the newest level hangs on one literal. It tells where that one stands in the trail.
func (q *search) trace(clash int) int {
	open := q.mark(q.clauses[clash].literals)
	at := len(q.trail) - 1
	for at > 0 {
		v := q.trail[at] >> 1
		reason := q.vars[v].reason
		if q.vars[v].marked {
			if open == 1 || reason == noClause {
				return at
			}
			more := q.mark(q.clauses[reason].literals)
			open += more - 1
		}
		at--
	}
	return at
}

// mark marks the variables of literals, but for those that have their value whatever is guessed. It tells how many it has newly marked in the newest level.
func (q *search) mark(literals []int) int {
	newest := 0
	for i := 0; i < len(literals); i++ {
		v := literals[i] >> 1
		if q.vars[v].marked || q.vars[v].level == 0 {
			continue
		}
		q.vars[v].marked = true
		q.vars[v].weight += q.bonus
		if q.vars[v].level == len(q.starts) {
			newest++
		}
	}
	return newest
}

// barring is a clause: the negations of the literal at a place of the trail, and of those ahead of it that are marked, but for the needless ones. Of these the last stands on the highest level.
func (q *search) barring(at int) []int {
	literals := []int{q.trail[at] ^ 1}
	for i := 0; i < at; i++ {
		v := q.trail[i] >> 1
		if q.vars[v].marked && !q.isNeedless(v) {
			literals = append(literals, q.trail[i]^1)
		}
	}
	return literals
}

// isNeedless tells whether a marked variable's value follows from others that are marked.
func (q *search) isNeedless(v int) bool {
	if q.vars[v].reason == noClause {
		return false
	}
	literals := q.clauses[q.vars[v].reason].literals
	for i := 0; i < len(literals); i++ {
		other := q.vars[literals[i]>>1]
		if !other.marked && other.level > 0 {
			return false
		}
	}
	return true
}

func (q *search) clearMarks() {
	for v := 0; v < len(q.vars); v++ {
		q.vars[v].marked = false
	}
}

// raiseBonus lets later conflicts count for more.
func (q *search) raiseBonus() {
	q.bonus += q.bonus / 16
	if q.bonus <= mostBonus {
		return
	}
	q.bonus /= mostBonus / firstBonus
	for v := 0; v < len(q.vars); v++ {
		q.vars[v].weight /= mostBonus / firstBonus
	}
}

// spanOf tells over how many levels the literals of a new clause are spread. But for the first they stand level by level.
func (q *search) spanOf(literals []int) int {
	span := 1
	level := 0
	for i := 1; i < len(literals); i++ {
		next := q.vars[literals[i]>>1].level
		if next != level {
			span++
		}
		level = next
	}
	return span
}

// blame finds the assumptions by which some literals are all false.
func (q *search) blame(literals []int) {
	q.mark(literals)
	for at := len(q.trail) - 1; at >= 0; at-- {
		v := q.trail[at] >> 1
		if !q.vars[v].marked {
			continue
		}
		reason := q.vars[v].reason
		if reason == noClause {
			q.core = append(q.core, q.trail[at])
		} else {
			q.mark(q.clauses[reason].literals)
		}
	}
}
