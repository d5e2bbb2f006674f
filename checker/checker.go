// Package checker: circuits are read and printed, decided; and a solver of clauses: see DOC.md.
package checker

import "circheck/api"

// Run decides a file, with so much to spend (P12 to P16). Not built yet.
func Run(file string, budget int) *api.Result { return nil }
