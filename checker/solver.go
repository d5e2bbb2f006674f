package checker

import "circheck/api"

// Solver is a solver of clauses. Not built yet: its calls answer zero values.
type Solver struct{}

// Answer is what Solve says.
type Answer int

const (
	None  Answer = 0 // refused
	Sat   Answer = 1
	Unsat Answer = 2
	Spent Answer = 3
)

// New gives a solver without variables.
func New() *Solver { return nil }

// NVars tells how many variables there are; NewVar gives the next one (P8).
func (s *Solver) NVars() int { return 0 }

func (s *Solver) NewVar(early bool) (int, api.Errno) { return 0, 0 }

// Add adds a clause (P9).
func (s *Solver) Add(l []int) api.Errno { return 0 }

// Solve asks whether the clauses can be true with what is assumed (P10).
func (s *Solver) Solve(as []int, budget int) Answer { return 0 }

// Value, Core, Conflicts tell of the last answer (P10, P11).
func (s *Solver) Value(v int) (bool, api.Errno) { return false, 0 }

func (s *Solver) Core() []int { return nil }

func (s *Solver) Conflicts() int { return 0 }
