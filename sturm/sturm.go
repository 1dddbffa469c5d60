// Package sturm counts roots: see doc/05-sturm.md.
package sturm

import (
	"surd/poly"
	"surd/ratio"
)

// All tells how many roots there are (F1).
func All(p poly.Poly) int { return 0 }

// Below tells how many are at most x (F1).
func Below(p poly.Poly, x ratio.Rat) int { return 0 }

// Between tells how many are above a and at most b (F1).
func Between(p poly.Poly, a ratio.Rat, b ratio.Rat) int { return 0 }

// Changes tells how often coefficients' signs change (F2).
func Changes(p poly.Poly) int { return 0 }

// Bound tells between what all roots are (F3).
func Bound(p poly.Poly) ratio.Rat { return ratio.Rat{} }
