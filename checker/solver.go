package checker

import "circheck/api"

// Solver is a solver of clauses. Only what was added, and the last answer, are kept: what a question has learned ends with it.
type Solver struct {
	early     []bool  // of each variable: whether it may be decided ahead of others
	clauses   [][]int // what must be true, without doubled literals
	model     []bool  // behind Sat: each variable's value
	core      []int   // behind Unsat: assumptions that cannot be true together
	conflicts int
}

// Answer is what Solve says.
type Answer int

const (
	None  Answer = 0 // refused
	Sat   Answer = 1
	Unsat Answer = 2
	Spent Answer = 3
)

// A solver that is nil has nothing, and no room: its calls refuse rather than panic (P1).

// New gives a solver without variables (P8).
func New() *Solver { return &Solver{} }

// NVars tells how many variables there are (P8).
func (s *Solver) NVars() int {
	if s == nil {
		return 0
	}
	return len(s.early)
}

// NewVar gives the next variable (P8).
func (s *Solver) NewVar(early bool) (int, api.Errno) {
	if s == nil || len(s.early) >= api.MaxVars {
		return 0, api.ErrFull
	}
	s.early = append(s.early, early)
	return len(s.early) - 1, api.OK
}

// Add adds a clause (P9).
func (s *Solver) Add(l []int) api.Errno {
	if s == nil || !s.haveAll(l) {
		return api.ErrInval
	}
	clause := s.distinct(l)
	if !isAlwaysTrue(clause) {
		s.clauses = append(s.clauses, clause)
	}
	return api.OK
}

// Solve asks whether all clauses can be true with what is assumed (P10).
func (s *Solver) Solve(as []int, budget int) Answer {
	if s == nil || budget < 0 || !s.haveAll(as) {
		return None
	}
	assumed := s.distinct(as)
	q := newSearch(s.early, assumed)
	answer := q.answer(s.clauses, budget)
	s.conflicts += q.met
	s.model = nil
	s.core = nil
	switch answer {
	case Sat:
		s.model = q.model()
	case Unsat:
		s.core = q.core
	}
	return answer
}

// Value tells a variable's value behind Sat (P10, P11).
func (s *Solver) Value(v int) (bool, api.Errno) {
	if s == nil || v < 0 || v >= len(s.model) {
		return false, api.ErrInval
	}
	return s.model[v], api.OK
}

// Core tells assumptions that cannot be true together, behind Unsat (P10, P11).
func (s *Solver) Core() []int {
	if s == nil {
		return nil
	}
	return append([]int(nil), s.core...)
}

// Conflicts tells how many conflicts there were so far (P11).
func (s *Solver) Conflicts() int {
	if s == nil {
		return 0
	}
	return s.conflicts
}

// haveAll tells whether all members of a list are literals of the solver's variables.
func (s *Solver) haveAll(list []int) bool {
	for i := 0; i < len(list); i++ {
		if list[i] < 0 || list[i] >= 2*len(s.early) {
			return false
		}
	}
	return true
}

// distinct is a fresh list with each literal of a list once; haveAll holds of the list. A table, as a list can be long.
func (s *Solver) distinct(list []int) []int {
	met := make([]bool, 2*len(s.early))
	fresh := []int{}
	for i := 0; i < len(list); i++ {
		if !met[list[i]] {
			met[list[i]] = true
			fresh = append(fresh, list[i])
		}
	}
	return fresh
}

// isAlwaysTrue tells whether a clause has a literal and its negation.
func isAlwaysTrue(clause []int) bool {
	for i := 0; i < len(clause); i++ {
		for j := 0; j < i; j++ {
			if clause[j] == clause[i]^1 {
				return true
			}
		}
	}
	return false
}
