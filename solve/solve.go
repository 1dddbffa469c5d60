// Package solve tells where polynomials are above 0, or below: see doc/07-solve.md.
package solve

import (
	"strings"

	"surd/api"
	"surd/poly"
	"surd/ratio"
	"surd/root"
)

// line is the real numbers, cut at the roots of a polynomial into cells: the numbers below all roots, the first root, those up to the second one, the second one, and so on. Cells with odd numbers are roots.
type line struct {
	roots  []root.Root
	signs  []int // on which side of 0 the polynomial is, cell by cell
	places int   // of the digits of roots
}

// Solve tells for which numbers a comparison of a polynomial with 0 is true (J1).
func Solve(p poly.Poly, op string, n int) (string, api.Errno) {
	holds, ok := comparisons()[op]
	if !ok {
		return "", api.ErrForm
	}
	roots := root.Roots(p)
	pieces := line{roots, signs(p, roots), n}.pieces(holds)
	if len(pieces) == 0 {
		return "none", api.OK
	}
	return strings.Join(pieces, " "), api.OK
}

// comparisons tells of each op whether it holds of a number of that sign and 0.
func comparisons() map[string]func(sign int) bool {
	return map[string]func(int) bool{
		"<":  func(sign int) bool { return sign < 0 },
		"<=": func(sign int) bool { return sign <= 0 },
		"=":  func(sign int) bool { return sign == 0 },
		"!=": func(sign int) bool { return sign != 0 },
		">=": func(sign int) bool { return sign >= 0 },
		">":  func(sign int) bool { return sign > 0 },
	}
}

// signs tells on which side of 0 p is in each cell: it changes sides at those roots that stand an odd number of times.
func signs(p poly.Poly, roots []root.Root) []int {
	sign := p.Coef(p.Degree()).Order(ratio.Rat{})
	if p.Degree()%2 != 0 {
		sign = -sign
	}
	l := []int{sign}
	for _, r := range roots {
		if r.Times()%2 != 0 {
			sign = -sign
		}
		l = append(l, 0, sign)
	}
	return l
}

// pieces gathers cells of which the comparison holds, and writes all that are beside each other as one piece (J2).
func (l line) pieces(holds func(sign int) bool) []string {
	var texts []string
	for i := 0; i < len(l.signs); i++ {
		if !holds(l.signs[i]) {
			continue
		}
		first := i
		for i+1 < len(l.signs) && holds(l.signs[i+1]) {
			i++
		}
		texts = append(texts, l.piece(first, i))
	}
	return texts
}

// piece writes the cells from first to last (J2).
func (l line) piece(first, last int) string {
	if first == last && isRoot(first) {
		return "{" + l.number(first/2) + "}"
	}
	opening, closing := "(", ")"
	if isRoot(first) {
		opening = "["
	}
	if isRoot(last) {
		closing = "]"
	}
	return opening + l.lower(first) + "," + l.upper(last) + closing
}

func isRoot(cell int) bool {
	return cell%2 == 1
}

// lower writes a cell's lower end.
func (l line) lower(cell int) string {
	if cell == 0 {
		return "-inf"
	}
	return l.number((cell - 1) / 2)
}

// upper writes a cell's upper end.
func (l line) upper(cell int) string {
	if cell == len(l.signs)-1 {
		return "inf"
	}
	return l.number(cell / 2)
}

// number writes a root.
func (l line) number(i int) string {
	if x, ok := l.roots[i].Rational(); ok {
		return x.Text()
	}
	return "~" + l.roots[i].Digits(l.places)
}
