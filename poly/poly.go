// Package poly works with polynomials: see doc/03-poly.md.
package poly

import (
	"slices"
	"strconv"
	"strings"

	"surd/ratio"
	"surd/whole"
)

// Poly is a polynomial. Its zero value is 0.
type Poly struct {
	coefs row[ratio.Rat] // the last one is not 0
}

func isZero(c ratio.Rat) bool {
	return c.Order(ratio.Rat{}) == 0
}

// made is the polynomial of a row that nobody else writes to.
func made(r row[ratio.Rat]) Poly {
	return Poly{r.trimmed(isZero)}
}

// constant is the polynomial that is worth c everywhere.
func constant(c ratio.Rat) Poly {
	return made(row[ratio.Rat]{c})
}

// wholeRat is n as a fraction.
func wholeRat(n int) ratio.Rat {
	c, _ := ratio.Of(whole.Of(n), whole.Of(1))
	return c
}

// Of makes a Poly (D1).
func Of(l []ratio.Rat) Poly {
	return made(slices.Clone(l))
}

// Text writes a polynomial (D3).
func (p Poly) Text() string {
	var b strings.Builder
	for i, c := range slices.Backward(p.coefs) {
		if !isZero(c) {
			b.WriteString(termText(c, i, b.Len() == 0))
		}
	}
	if b.Len() == 0 {
		return "0"
	}
	return b.String()
}

// termText writes a term that is not 0; the first one has no `+` ahead.
func termText(c ratio.Rat, power int, first bool) string {
	size, below := strings.CutPrefix(c.Text(), "-")
	if size == "1" && power > 0 {
		size = ""
	}
	switch {
	case below:
		return "-" + size + powerText(power)
	case first:
		return size + powerText(power)
	}
	return "+" + size + powerText(power)
}

func powerText(power int) string {
	switch power {
	case 0:
		return ""
	case 1:
		return "x"
	}
	return "x^" + strconv.Itoa(power)
}

// Degree is the highest power (D1).
func (p Poly) Degree() int {
	return len(p.coefs) - 1
}

// Coef is a power's coefficient (D1).
func (p Poly) Coef(i int) ratio.Rat {
	return p.coefs.coef(i)
}

// Plus is the sum (D4).
func (p Poly) Plus(q Poly) Poly {
	return made(joined(p.coefs, q.coefs, ratio.Rat.Plus))
}

// Minus is the difference (D4).
func (p Poly) Minus(q Poly) Poly {
	return made(joined(p.coefs, q.coefs, ratio.Rat.Minus))
}

// Times is the product (D4).
func (p Poly) Times(q Poly) Poly {
	return made(p.coefs.times(q.coefs))
}

// Split is quotient and rest (D4).
func (p Poly) Split(q Poly) (Poly, Poly, bool) {
	n := q.Degree()
	if n < 0 {
		return Poly{}, Poly{}, false
	}
	rest := slices.Clone(p.coefs)
	quotient := make(row[ratio.Rat], max(0, len(rest)-n))
	for i := range slices.Backward(quotient) {
		c, _ := rest[i+n].Over(q.coefs[n])
		quotient[i] = c
		for j, d := range q.coefs {
			rest[i+j] = rest[i+j].Minus(c.Times(d))
		}
	}
	return made(quotient), made(rest), true
}

// At is what a polynomial is worth somewhere (D4).
func (p Poly) At(x ratio.Rat) ratio.Rat {
	return p.coefs.at(x)
}

// Slope is the derivative (D4).
func (p Poly) Slope() Poly {
	slope := make(row[ratio.Rat], max(0, p.Degree()))
	for i := range slope {
		slope[i] = p.coefs[i+1].Times(wholeRat(i + 1))
	}
	return made(slope)
}

// Moved is the polynomial, so much further on (D4).
func (p Poly) Moved(a ratio.Rat) Poly {
	further := made(row[ratio.Rat]{a, wholeRat(1)})
	return mapped(p.coefs, constant).at(further)
}
