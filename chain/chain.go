// Package chain divides one polynomial by another, and on by what is left, for packages that look at what comes on the way.
package chain

import (
	"iter"

	"surd/poly"
	"surd/ratio"
	"surd/whole"
)

// Of is p, q, and on and on what is left of the last but one, divided by the last one, with the other sign, until nothing is left: the last one that comes divides both p and q, and no other one that does is of a higher Degree.
// Each comes multiplied with some fraction above 0, so that its coefficients are whole and have nothing in common: they would soon be long otherwise.
func Of(p, q poly.Poly) iter.Seq[poly.Poly] {
	return func(yield func(poly.Poly) bool) {
		last, next := least(p), least(q)
		for yield(last) && next.Degree() >= 0 {
			last, next = next, left(last, next)
		}
	}
}

// left is what is left of p, divided by q, with the other sign.
func left(p, q poly.Poly) poly.Poly {
	_, rest, _ := widened(p, q).Split(q)
	return poly.Poly{}.Minus(least(rest))
}

// widened is p, multiplied with so much that its quotient by q has whole coefficients, too: with whole numbers there is far less to do than with fractions.
func widened(p, q poly.Poly) poly.Poly {
	lead := size(q.Coef(q.Degree()))
	factor, _ := ratio.Of(whole.Of(1), whole.Of(1))
	for range p.Degree() - q.Degree() + 1 {
		factor = factor.Times(lead)
	}
	return scaled(p, factor)
}

// least is p, multiplied with a fraction above 0, so that its coefficients are whole numbers that no number above 1 divides all.
func least(p poly.Poly) poly.Poly {
	var common whole.Int
	below := whole.Of(1)
	for i := range p.Degree() + 1 {
		common = common.GCD(p.Coef(i).Num())
		below = multiple(below, p.Coef(i).Den())
	}
	factor, ok := ratio.Of(below, common)
	if !ok {
		return poly.Poly{} // nothing but zeros have 0 in common
	}
	return scaled(p, factor)
}

// multiple is the least number that both divide.
func multiple(a, b whole.Int) whole.Int {
	part, _, _ := b.Split(a.GCD(b))
	return a.Times(part)
}

// scaled is p, multiplied with a number.
func scaled(p poly.Poly, factor ratio.Rat) poly.Poly {
	l := make([]ratio.Rat, p.Degree()+1)
	for i := range l {
		l[i] = p.Coef(i).Times(factor)
	}
	return poly.Of(l)
}

// size is a without its sign.
func size(a ratio.Rat) ratio.Rat {
	if a.Order(ratio.Rat{}) < 0 {
		return ratio.Rat{}.Minus(a)
	}
	return a
}
