package root

import (
	"testing"

	"surd/api"
	"surd/poly"
	"surd/ratio"
	"surd/whole"
)

func read(t *testing.T, s string) poly.Poly {
	t.Helper()
	p, e, at := poly.Parse(s)
	if e != api.OK {
		t.Fatalf("D2: Parse(%q): %d, %d", s, e, at)
	}
	return p
}

func rat(t *testing.T, s string) ratio.Rat {
	t.Helper()
	a, ok := ratio.Parse(s)
	if !ok {
		t.Fatalf("B2: Parse(%q) is refused", s)
	}
	return a
}

func signOf(a ratio.Rat) int {
	return a.Order(ratio.Rat{})
}

// surd is the number a + b times the square root of c, which is not below 0: its sign and its powers are known without any root of a polynomial.
type surd struct {
	a, b, c ratio.Rat
}

func (s surd) sign() int {
	left, right := signOf(s.a), signOf(s.b)*signOf(s.c)
	if left*right >= 0 {
		return signOf(wholeRat(left + right))
	}
	return left * s.a.Times(s.a).Order(s.b.Times(s.b).Times(s.c))
}

func (s surd) less(x ratio.Rat) surd {
	return surd{s.a.Minus(x), s.b, s.c}
}

// isFraction holds if b is not 0 only where c is no square.
func (s surd) isFraction() bool {
	return signOf(s.b) == 0
}

// order tells which is the greater one.
func (s surd) order(u surd) int {
	difference := s.less(u.a)
	root := surd{ratio.Rat{}, u.b, u.c}
	if left, right := difference.sign(), root.sign(); left != right || left == 0 {
		return signOf(wholeRat(left - right))
	}
	squares := surd{
		difference.a.Times(difference.a).Plus(s.b.Times(s.b).Times(s.c)).Minus(u.b.Times(u.b).Times(u.c)),
		wholeRat(2).Times(difference.a).Times(s.b), s.c,
	}
	return root.sign() * squares.sign()
}

// worth is what q is worth at s.
func (s surd) worth(q poly.Poly) surd {
	sum := surd{c: s.c}
	for i := q.Degree(); i >= 0; i-- {
		sum = surd{
			sum.a.Times(s.a).Plus(sum.b.Times(s.b).Times(s.c)).Plus(q.Coef(i)),
			sum.a.Times(s.b).Plus(sum.b.Times(s.a)), s.c,
		}
	}
	return sum
}

// factor is x less a number that is a fraction, or x less a number and x less that with the other sign ahead of the square root.
func (s surd) factor() poly.Poly {
	if s.isFraction() {
		return poly.Of([]ratio.Rat{ratio.Rat{}.Minus(s.a), wholeRat(1)})
	}
	return poly.Of([]ratio.Rat{s.a.Times(s.a).Minus(s.b.Times(s.b).Times(s.c)), wholeRat(-2).Times(s.a), wholeRat(1)})
}

// other is s with the other sign ahead of the square root.
func (s surd) other() surd {
	return surd{s.a, ratio.Rat{}.Minus(s.b), s.c}
}

func surdOf(t *testing.T, a, b, c string) surd {
	t.Helper()
	return surd{rat(t, a), rat(t, b), rat(t, c)}
}

func TestSurds(t *testing.T) { // the tests' own measure
	root2, root3 := surdOf(t, "0", "1", "2"), surdOf(t, "0", "1", "3")
	if root2.sign() != 1 || root2.other().sign() != -1 || root2.less(rat(t, "141421356/100000000")).sign() != 1 || root2.less(rat(t, "141421357/100000000")).sign() != -1 {
		t.Error("sign")
	}
	if root2.order(root3) != -1 || root3.order(root2) != 1 || root2.order(root2) != 0 || root2.other().order(root3.other()) != 1 || root2.other().order(root3) != -1 {
		t.Error("order")
	}
	if surdOf(t, "0", "2", "2").order(surdOf(t, "0", "1", "8")) != 0 || surdOf(t, "1", "1", "2").order(surdOf(t, "-2", "3", "3")) != -1 {
		t.Error("order")
	}
	if root2.worth(read(t, "x^4-4")).sign() != 0 || root2.worth(read(t, "x^3-3")).sign() != -1 || root2.factor().Text() != "x^2-2" {
		t.Error("worth")
	}
}

// source is a row of numbers of no order, always the same.
type source struct{ state uint64 }

func (s *source) next() uint64 {
	s.state = s.state*6364136223846793005 + 1442695040888963407
	return s.state >> 33
}

// between is a number from low to high.
func (s *source) between(low, high int) int {
	return low + int(s.next()%uint64(high-low+1))
}

func (s *source) rat(size int) ratio.Rat {
	a, _ := ratio.Of(whole.Of(s.between(-size, size)), whole.Of(s.between(1, size)))
	return a
}

// surd is a fraction, or a number that is none.
func (s *source) surd(size int) surd {
	if s.between(0, 1) == 0 {
		return surd{a: s.rat(size)}
	}
	noSquares := [...]int{2, 3, 5, 6, 7, 8, 12, 999999999999}
	b := wholeRat(0)
	for signOf(b) == 0 {
		b = s.rat(size)
	}
	return surd{s.rat(size), b, wholeRat(noSquares[s.between(0, len(noSquares)-1)])}
}

func (s *source) poly(degree, size int) poly.Poly {
	l := make([]ratio.Rat, degree+1)
	for i := range l {
		l[i] = s.rat(size)
	}
	return poly.Of(l)
}
