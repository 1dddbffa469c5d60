package parts

import (
	"reflect"
	"slices"
	"sync"
	"testing"

	"surd/api"
	"surd/poly"
	"surd/ratio"
)

func read(t *testing.T, s string) poly.Poly {
	t.Helper()
	p, e, at := poly.Parse(s)
	if e != api.OK {
		t.Fatalf("D2: Parse(%q): %d, %d", s, e, at)
	}
	return p
}

func rat(t *testing.T, s string) ratio.Rat {
	t.Helper()
	a, ok := ratio.Parse(s)
	if !ok {
		t.Fatalf("B2: Parse(%q) is refused", s)
	}
	return a
}

// factor is a polynomial's text, and how often it stands in a product.
type factor struct {
	text  string
	times int
}

// product multiplies factors.
func product(t *testing.T, l ...factor) poly.Poly {
	t.Helper()
	p := read(t, "1")
	for _, f := range l {
		for range f.times {
			p = p.Times(read(t, f.text))
		}
	}
	return p
}

// samples is polynomials of all sorts, but for 0.
func samples(t *testing.T) []poly.Poly {
	t.Helper()
	var l []poly.Poly
	for _, s := range []string{"1", "-2/3", "x", "-5x", "x-1", "-2x+1/3", "x^2-2", "3x^2+3", "x^2", "x^3-1", "x^2-1", "x^3-x^2-x+1", "-x^4+4", "x^8-1", "1/7x^6-x^3", "999999999999x^8-1/999999999999x+7"} {
		l = append(l, read(t, s))
	}
	return append(l,
		product(t, factor{"-2x+1", 3}, factor{"x^2+1", 2}, factor{"x", 1}),
		product(t, factor{"x-1", 4}, factor{"x^2-2", 2}, factor{"1/3x+1", 3}),
		product(t, factor{"x^3-1", 4}, factor{"7", 1}),
		product(t, factor{"x", 20}, factor{"x+1", 1}))
}

func isMonic(p poly.Poly) bool {
	return p.Coef(p.Degree()).Text() == "1"
}

func divides(q, p poly.Poly) bool {
	_, rest, ok := p.Split(q)
	return ok && rest.Degree() < 0
}

func TestGCDs(t *testing.T) { // E1
	for _, c := range []struct{ p, q, want string }{
		{"0", "0", "0"},
		{"0", "3x+6", "x+2"},
		{"0", "-1/2x^2+1", "x^2-2"},
		{"0", "7", "1"},
		{"0", "-1/7", "1"},
		{"5", "-3", "1"},
		{"5", "x", "1"},
		{"-5/9", "x^8", "1"},
		{"x", "x+1", "1"},
		{"x^2+1", "x^2-1", "1"},
		{"2x", "4x^2", "x"},
		{"-2x", "-2x", "x"},
		{"-6x^2+6", "4x-4", "x-1"},
		{"1/3x^2-1/3", "5/7x+5/7", "x+1"},
		{"x^3-1", "x^2-1", "x-1"},
		{"x^8-1", "x^6-1", "x^2-1"},
		{"6x^2-5x+1", "4x^2-4x+1", "x-1/2"},
		{"x^4-4", "x^3-2x", "x^2-2"},
	} {
		p, q := read(t, c.p), read(t, c.q)
		if g, h := GCD(p, q), GCD(q, p); g.Text() != c.want || h.Text() != c.want {
			t.Errorf("E1: GCD(%s, %s): %s, turned round %s, want %s", c.p, c.q, g.Text(), h.Text(), c.want)
		}
	}
	if !reflect.DeepEqual(GCD(poly.Poly{}, poly.Poly{}), poly.Poly{}) {
		t.Error("E1: GCD of 0 and 0 is not Poly{}")
	}
}

func TestGCDIsTheHighestThatDividesBoth(t *testing.T) { // E1
	l := samples(t)
	for _, p := range l {
		for _, q := range l {
			g := GCD(p, q)
			if !isMonic(g) || !divides(g, p) || !divides(g, q) {
				t.Errorf("E1: GCD(%s, %s): %s", p.Text(), q.Text(), g.Text())
				continue
			}
			if more := GCD(over(p, g), over(q, g)); more.Degree() != 0 {
				t.Errorf("E1: GCD(%s, %s): %s is short of %s", p.Text(), q.Text(), g.Text(), more.Text())
			}
		}
	}
}

func TestGCDOfProductsHasWhatBothHave(t *testing.T) { // E1
	left, right := read(t, "-3x^3+2x-1/5"), read(t, "7x^2+x+1/9") // nothing divides both
	for _, p := range samples(t) {
		if g := GCD(p.Times(left), right.Times(p)); g.Text() != monic(p).Text() {
			t.Errorf("E1: GCD of products of %s: %s", p.Text(), g.Text())
		}
	}
}

func TestFrees(t *testing.T) { // E2
	for _, c := range []struct{ p, want string }{
		{"0", "0"}, {"1", "1"}, {"-3", "1"}, {"2/7", "1"},
		{"x", "x"}, {"-2x+1", "x-1/2"}, {"4x^2", "x"}, {"x^8", "x"},
		{"x^2+1", "x^2+1"}, {"-1/2x^2+1", "x^2-2"},
		{"x^3-x^2-x+1", "x^2-1"}, {"x^4-4x^2+4", "x^2-2"}, {"5x^4+10x^2+5", "x^2+1"},
		{"x^3-3x^2+3x-1", "x-1"}, {"x^6-2x^3+1", "x^3-1"},
	} {
		if f := Free(read(t, c.p)); f.Text() != c.want {
			t.Errorf("E2: Free(%s): %s, want %s", c.p, f.Text(), c.want)
		}
	}
	if !reflect.DeepEqual(Free(poly.Poly{}), poly.Poly{}) {
		t.Error("E2: Free of 0 is not Poly{}")
	}
	p := product(t, factor{"-2x+1", 3}, factor{"x^2+1", 2}, factor{"x", 4}, factor{"x-7", 1})
	if f := Free(p); f.Text() != monic(product(t, factor{"-2x+1", 1}, factor{"x^2+1", 1}, factor{"x", 1}, factor{"x-7", 1})).Text() {
		t.Errorf("E2: Free(%s): %s", p.Text(), f.Text())
	}
}

func TestFreeIsTheHighestThatIsFree(t *testing.T) { // E2
	for _, p := range samples(t) {
		f := Free(p)
		if !isMonic(f) || !divides(f, p) || GCD(f, f.Slope()).Degree() != 0 || Free(f).Text() != f.Text() {
			t.Errorf("E2: Free(%s): %s", p.Text(), f.Text())
		}
		power := read(t, "1")
		for range p.Degree() {
			power = power.Times(f)
		}
		if !divides(p, power) { // then no divisor of p is without a part in f
			t.Errorf("E2: Free(%s): %s lacks a divisor", p.Text(), f.Text())
		}
	}
}

func TestPartsOfProducts(t *testing.T) { // E3
	for _, c := range []struct {
		lead string
		l    []factor
	}{
		{"1", []factor{{"x", 1}}},
		{"-2/3", []factor{{"x", 1}}},
		{"5", []factor{{"x-1/2", 2}}},
		{"1", []factor{{"x^2+1", 3}}},
		{"-1", []factor{{"x^3-2x+2", 4}}},
		{"1", []factor{{"x+1", 1}, {"x-1", 2}}},
		{"7/5", []factor{{"x^2-2", 1}, {"x^2+1/3", 2}, {"x-9", 3}, {"x", 4}}},
		{"2", []factor{{"x^3+2x^2+x+2", 1}, {"x-1", 2}, {"x", 3}}},
		{"-3", []factor{{"x^2-1", 1}, {"x", 4}}},
		{"1", []factor{{"x^2-3", 2}, {"x^2-2", 4}}},
		{"1/9", []factor{{"x+5", 3}, {"x-5", 7}}},
		{"1", []factor{{"x+2", 1}, {"x+1", 19}}},
	} {
		p := product(t, c.l...).Times(read(t, c.lead))
		if l := told(Parts(p)); !slices.Equal(l, c.l) {
			t.Errorf("E3: Parts(%s): %v, want %v", p.Text(), l, c.l)
		}
	}
}

func told(l []Part) []factor {
	var z []factor
	for _, a := range l {
		z = append(z, factor{a.Poly.Text(), a.Times})
	}
	return z
}

func TestPartsOfConstantsAreNone(t *testing.T) { // E3, G2
	for _, s := range []string{"0", "1", "-1", "5/3", "x-x"} {
		if l := Parts(read(t, s)); l != nil {
			t.Errorf("E3: Parts(%s): %v", s, told(l))
		}
	}
}

func TestPartsMultiplyToThePolynomial(t *testing.T) { // E3
	for _, p := range samples(t) {
		back := poly.Of([]ratio.Rat{p.Coef(p.Degree())})
		last := 0
		l := Parts(p)
		for i, a := range l {
			if a.Times <= last || a.Poly.Degree() < 1 || !isMonic(a.Poly) || GCD(a.Poly, a.Poly.Slope()).Degree() != 0 {
				t.Errorf("E3: Parts(%s): %v", p.Text(), told(l))
			}
			for _, b := range l[:i] {
				if GCD(a.Poly, b.Poly).Degree() != 0 {
					t.Errorf("E3: Parts(%s): %s and %s", p.Text(), a.Poly.Text(), b.Poly.Text())
				}
			}
			last = a.Times
			for range a.Times {
				back = back.Times(a.Poly)
			}
		}
		if back.Text() != p.Text() {
			t.Errorf("E3: Parts(%s) multiply to %s", p.Text(), back.Text())
		}
	}
}

func TestHighDegreesAndLongNumbers(t *testing.T) { // E1 to E3, G1
	long := poly.Of([]ratio.Rat{rat(t, "-123456789012345678901234567890/7"), rat(t, "1")})
	p := long.Times(long).Times(product(t, factor{"-3x^8+x+1", 5}))
	if l := told(Parts(p)); !slices.Equal(l, []factor{{long.Text(), 2}, {"x^8-1/3x-1/3", 5}}) {
		t.Errorf("E3: Parts(%s): %v", p.Text(), l)
	}
	if f := Free(p); f.Text() != long.Times(read(t, "x^8-1/3x-1/3")).Text() {
		t.Errorf("E2: Free(%s): %s", p.Text(), f.Text())
	}
	if g := GCD(p, long.Times(read(t, "x^8-2"))); g.Text() != long.Text() {
		t.Errorf("E1: GCD(%s, ..): %s", p.Text(), g.Text())
	}
}

func TestAnswersShareNothing(t *testing.T) { // G3, G4
	p := product(t, factor{"x+1", 1}, factor{"x-1", 2}, factor{"2x", 3})
	text := p.Text()
	first := Parts(p)
	want := told(first)
	first[0], first[1] = Part{}, Part{}
	if l := told(Parts(p)); !slices.Equal(l, want) || p.Text() != text {
		t.Errorf("G4: Parts(%s): %v, then %v", text, want, l)
	}
}

func TestManyAtATime(t *testing.T) { // G1, G3
	p, q := product(t, factor{"x+1", 1}, factor{"x-1", 2}, factor{"2x", 3}), read(t, "x^3-x")
	var all sync.WaitGroup
	answers := make([]string, 8)
	for i := range answers {
		all.Go(func() {
			answers[i] = GCD(p, q).Text() + " " + Free(p).Text() + " " + Parts(p)[2].Poly.Text()
		})
	}
	all.Wait()
	for _, a := range answers {
		if a != "x^3-x x^3-x x" {
			t.Errorf("G1: %s", a)
		}
	}
}
