// Package parts tells what polynomials have in common: see doc/04-parts.md.
package parts

import "surd/poly"

// Part is a polynomial that divides another one so many times.
type Part struct {
	Poly  poly.Poly
	Times int
}

// GCD is the greatest common divisor (E1).
func GCD(p poly.Poly, q poly.Poly) poly.Poly { return poly.Poly{} }

// Free is what has each root once (E2).
func Free(p poly.Poly) poly.Poly { return poly.Poly{} }

// Parts parts a polynomial by how often its roots stand in it (E3).
func Parts(p poly.Poly) []Part { return nil }
