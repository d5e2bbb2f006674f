// Package checker: circuits are read and printed, decided; and a solver of clauses: see DOC.md.
package checker

import "circheck/api"

// Run decides a file, with so much to spend (P12 to P16).
func Run(file string, budget int) *api.Result {
	if budget < 0 {
		return &api.Result{F: api.Fault{E: api.ErrInval}}
	}
	c, fault := Read(file)
	if fault.E != api.OK {
		return &api.Result{F: fault}
	}
	r := newRun(c, budget)
	verdict := r.decide()
	return r.result(verdict)
}
