// Package root tells roots, one by one: see doc/06-root.md.
package root

import (
	"slices"

	"surd/chain"
	"surd/parts"
	"surd/poly"
	"surd/ratio"
)

const maxPlaces = 30

// Root is a real root of a polynomial. Roots makes them.
type Root struct {
	span // where it is; both ends are the root itself, if it is a fraction

	// free has the root once, and no other one in the span. Its coefficients are whole, the highest one is above 0.
	// If the root is no fraction, free is not 0 at the span's ends: signs are looked at there.
	free  poly.Poly
	sign  int // of free at the span's high end
	times int
}

// Roots tells all roots, rising (H1).
func Roots(p poly.Poly) []Root {
	var l []Root
	for _, part := range parts.Parts(p) {
		l = append(l, rootsOf(part)...)
	}
	slices.SortFunc(l, Root.Order)
	return l
}

// rootsOf is the roots of a part, which has each once.
func rootsOf(part parts.Part) []Root {
	row := slices.Collect(chain.Of(part.Poly, part.Poly.Slope()))
	count := func(s span) int { return lost(row, s) }
	var l []Root
	all := around(part.Poly)
	all.parted(count(all), count, func(s span) {
		l = append(l, Root{s, row[0], signAt(row[0], s.high), part.Times}.settled())
	})
	return l
}

// settled is the root, of which it is known whether it is a fraction. The fractions that can be roots have, in their
// least numbers, one below that divides the highest coefficient: in a span that is small enough there is at most one.
func (r Root) settled() Root {
	lead := r.free.Coef(r.free.Degree()).Num()
	for r.severalParts(lead) || signAt(r.free, r.low) == 0 {
		r = r.halved()
	}
	x, _ := ratio.Of(partsUpTo(r.high, lead), lead)
	if x.Order(r.low) > 0 && signAt(r.free, x) == 0 {
		r.low, r.high, r.sign = x, x, 0
	}
	return r
}

// halved is the same root in half of its span.
func (r Root) halved() Root {
	return r.cut(r.middle())
}

// cut is the same root in what is left of its span when that ends, on one side or the other, at x.
func (r Root) cut(x ratio.Rat) Root {
	if !r.within(x) {
		return r
	}
	// From the root on the sign is the same up to the high end; both x and that end may be the root, until it is settled.
	if s := signAt(r.free, x); s == 0 || s == r.sign {
		r.high, r.sign = x, s
	} else {
		r.low = x
	}
	return r
}

// Times tells how often a root stands in its polynomial (H2).
func (r Root) Times() int {
	return r.times
}

// Rational tells which fraction a root is, if it is one (H2).
func (r Root) Rational() (ratio.Rat, bool) {
	if r.low.Order(r.high) < 0 {
		return ratio.Rat{}, false
	}
	return r.low, true
}

// Digits writes a root with so many places (H2).
func (r Root) Digits(n int) string {
	n = min(n, maxPlaces)
	// A root that is no fraction is between two numbers of n places: at last both ends are there, too.
	for r.low.Digits(n) != r.high.Digits(n) {
		r = r.halved()
	}
	return r.low.Digits(n)
}

// Order tells which of two roots is the greater one (H2).
func (r Root) Order(s Root) int {
	if x, ok := s.Rational(); ok {
		return r.side(x)
	}
	if r.side(s.low) <= 0 {
		return -1
	}
	if r.side(s.high) >= 0 {
		return 1
	}
	// r is in the span of s, in which s.free has at s alone another sign ahead than behind.
	return r.Sign(s.free) * s.sign
}

// side tells whether a root is below, equal to or above x: what is left of its span is all there.
func (r Root) side(x ratio.Rat) int {
	return r.cut(x).middle().Order(x)
}

// Sign tells on which side of 0 a polynomial is at a root (H2).
func (r Root) Sign(q poly.Poly) int {
	if x, ok := r.Rational(); ok {
		return q.At(x).Order(ratio.Rat{})
	}
	// On the way up through a root of free this row loses a change of signs, if q is above 0 there, and gains one, if
	// q is below 0; at no other place it does either.
	row := slices.Collect(chain.Of(r.free, r.free.Slope().Times(q)))
	return lost(row, r.span)
}
