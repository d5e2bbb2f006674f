package checker

import "circheck/api"

// mostLearned is a bound, so that a long question does not need ever more memory.
const mostLearned = 4000

// makeRoom drops about half of the learned clauses, if there are too many. No value loses its reason by that, so the search still ends.
func (q *search) makeRoom() {
	if len(q.clauses)-q.given < q.room {
		return
	}
	stays := q.staying()
	place := make([]int, len(q.clauses))
	count := 0
	for k := 0; k < len(q.clauses); k++ {
		if stays[k] {
			q.clauses[count] = q.clauses[k]
			place[k] = count
			count++
		}
	}
	q.clauses = q.clauses[:count]
	for i := 0; i < len(q.trail); i++ {
		v := q.trail[i] >> 1
		if q.vars[v].reason != noClause {
			q.vars[v].reason = place[q.vars[v].reason]
		}
	}
	q.watchAnew()
}

// staying tells of each clause whether it stays: those that were given do, reasons do, and of the others those of the least spans; of equal ones the newest.
func (q *search) staying() []bool {
	stays := make([]bool, len(q.clauses))
	room := q.roomBySpan()
	for k := len(q.clauses) - 1; k >= 0; k-- {
		span := q.clauses[k].span
		stays[k] = k < q.given || room[span] > 0
		room[span]--
	}
	for i := 0; i < len(q.trail); i++ {
		reason := q.vars[q.trail[i]>>1].reason
		if reason != noClause {
			stays[reason] = true
		}
	}
	return stays
}

// roomBySpan tells how many learned clauses of each span may stay.
func (q *search) roomBySpan() [api.MaxVars + 1]int {
	var room [api.MaxVars + 1]int
	for k := q.given; k < len(q.clauses); k++ {
		room[q.clauses[k].span]++
	}
	free := q.room / 2
	for span := 0; span < len(room); span++ {
		if room[span] > free {
			room[span] = free
		}
		free -= room[span]
	}
	return room
}

// watchAnew lists the watchers again, as clauses have other places now.
func (q *search) watchAnew() {
	for l := 0; l < len(q.watchers); l++ {
		q.watchers[l] = q.watchers[l][:0]
	}
	for k := 0; k < len(q.clauses); k++ {
		if len(q.clauses[k].literals) > 1 {
			q.enter(k)
		}
	}
}
