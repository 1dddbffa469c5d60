// Package solve tells where polynomials are above 0, or below: see doc/07-solve.md.
package solve

import (
	"surd/api"
	"surd/poly"
)

// Solve tells for which numbers a comparison of a polynomial with 0 is true (J1).
func Solve(p poly.Poly, op string, n int) (string, api.Errno) { return "", api.OK }
