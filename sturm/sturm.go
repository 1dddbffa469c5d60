// Package sturm counts roots: see doc/05-sturm.md.
package sturm

import (
	"iter"
	"slices"

	"surd/chain"
	"surd/poly"
	"surd/ratio"
	"surd/whole"
)

// place is where polynomials are looked at: it tells the sign of each there.
type place func(poly.Poly) int

// All tells how many roots there are (F1).
func All(p poly.Poly) int {
	return count(p, farBelow, farAbove)
}

// Below tells how many are at most x (F1).
func Below(p poly.Poly, x ratio.Rat) int {
	return count(p, farBelow, at(x))
}

// Between tells how many are above a and at most b (F1).
func Between(p poly.Poly, a ratio.Rat, b ratio.Rat) int {
	if p.Degree() >= 0 && a.Order(b) >= 0 {
		return 0
	}
	return count(p, at(a), at(b))
}

// Changes tells how often coefficients' signs change (F2).
func Changes(p poly.Poly) int {
	return changes(signs(fromHighest(p), sign))
}

// Bound tells between what all roots are (F3).
func Bound(p poly.Poly) ratio.Rat {
	// Further away than this the highest power outweighs all others together.
	var greatest ratio.Rat
	for i := range p.Degree() {
		c, _ := p.Coef(i).Over(p.Coef(p.Degree()))
		greatest = greater(greatest, size(c))
	}
	one, _ := ratio.Of(whole.Of(1), whole.Of(1))
	return greatest.Plus(one)
}

// count tells how many roots are above one place and at most at another one that is not below it; -1, if p is 0.
func count(p poly.Poly, from, to place) int {
	if p.Degree() < 0 {
		return -1
	}
	row := slices.Values(sturmRow(p))
	return changes(signs(row, from)) - changes(signs(row, to))
}

// sturmRow is a row of polynomials in which, on the way up, a change of signs is lost at each root of p, and nowhere else.
func sturmRow(p poly.Poly) []poly.Poly {
	row := slices.Collect(chain.Of(p, p.Slope()))
	// Where a root stands more than once, all of them are 0. The last one has just these roots, each as often as
	// all others have it in common; without it each root stands once.
	last := row[len(row)-1]
	for i, q := range row {
		row[i], _, _ = q.Split(last)
	}
	return row
}

// changes counts how often the sign changes, zeros left away.
func changes(signs iter.Seq[int]) int {
	n, last := 0, 0
	for s := range signs {
		if s == 0 {
			continue
		}
		if s == -last {
			n++
		}
		last = s
	}
	return n
}

// signs is what sign tells of each thing.
func signs[T any](things iter.Seq[T], sign func(T) int) iter.Seq[int] {
	return func(yield func(int) bool) {
		for a := range things {
			if !yield(sign(a)) {
				return
			}
		}
	}
}

// fromHighest is p's coefficients, that of the highest power first.
func fromHighest(p poly.Poly) iter.Seq[ratio.Rat] {
	return func(yield func(ratio.Rat) bool) {
		for i := p.Degree(); i >= 0 && yield(p.Coef(i)); i-- {
		}
	}
}

// at is the place of a number.
func at(x ratio.Rat) place {
	return func(q poly.Poly) int { return sign(q.At(x)) }
}

// farAbove is above all roots of all polynomials that are looked at: there the highest power tells the sign.
func farAbove(q poly.Poly) int {
	return sign(q.Coef(q.Degree()))
}

// farBelow is below all roots.
func farBelow(q poly.Poly) int {
	if q.Degree()%2 == 0 {
		return farAbove(q)
	}
	return -farAbove(q)
}

func sign(a ratio.Rat) int {
	return a.Order(ratio.Rat{})
}

// size is a without its sign.
func size(a ratio.Rat) ratio.Rat {
	if sign(a) < 0 {
		return ratio.Rat{}.Minus(a)
	}
	return a
}

func greater(a, b ratio.Rat) ratio.Rat {
	if a.Order(b) < 0 {
		return b
	}
	return a
}
