// Package parts tells what polynomials have in common: see doc/04-parts.md.
package parts

import (
	"surd/chain"
	"surd/poly"
	"surd/ratio"
)

// Part is a polynomial that divides another one so many times.
type Part struct {
	Poly  poly.Poly
	Times int
}

// GCD is the greatest common divisor (E1).
func GCD(p poly.Poly, q poly.Poly) poly.Poly {
	var last poly.Poly
	for r := range chain.Of(p, q) {
		last = r
	}
	return monic(last)
}

// monic is p, divided by its highest coefficient.
func monic(p poly.Poly) poly.Poly {
	l := make([]ratio.Rat, p.Degree()+1)
	for i := range l {
		l[i], _ = p.Coef(i).Over(p.Coef(p.Degree()))
	}
	return poly.Of(l)
}

// over is p / q, where q divides p.
func over(p, q poly.Poly) poly.Poly {
	quotient, _, _ := p.Split(q)
	return quotient
}

// Free is what has each root once (E2).
func Free(p poly.Poly) poly.Poly {
	return monic(over(p, GCD(p, p.Slope())))
}

// Parts parts a polynomial by how often its roots stand in it (E3).
func Parts(p poly.Poly) []Part {
	if p.Degree() < 1 {
		return nil
	}
	p = monic(p)
	common := GCD(p, p.Slope())
	// ahead is the product of the parts whose Times is not reached yet. The slope of p over p is a sum: of each part
	// its own slope over itself, Times times. slope over ahead is what is left of the sum when one of each is taken
	// off in every turn: a part of which none is left divides both.
	ahead, slope := over(p, common), over(p.Slope(), common)
	var l []Part
	for times := 1; ahead.Degree() > 0; times++ {
		slope = slope.Minus(ahead.Slope())
		part := GCD(ahead, slope)
		if part.Degree() > 0 {
			l = append(l, Part{part, times})
		}
		ahead, slope = over(ahead, part), over(slope, part)
	}
	return l
}
