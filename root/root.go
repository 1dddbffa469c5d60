// Package root tells roots, one by one: see doc/06-root.md.
package root

import (
	"surd/poly"
	"surd/ratio"
)

// Root is a real root of a polynomial. Roots makes them.
type Root struct{}

// Roots tells all roots, rising (H1).
func Roots(p poly.Poly) []Root { return nil }

// Times tells how often a root stands in its polynomial (H2).
func (r Root) Times() int { return 0 }

// Rational tells which fraction a root is, if it is one (H2).
func (r Root) Rational() (ratio.Rat, bool) { return ratio.Rat{}, false }

// Digits writes a root with so many places (H2).
func (r Root) Digits(n int) string { return "" }

// Order tells which of two roots is the greater one (H2).
func (r Root) Order(s Root) int { return 0 }

// Sign tells on which side of 0 a polynomial is at a root (H2).
func (r Root) Sign(q poly.Poly) int { return 0 }
