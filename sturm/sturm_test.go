package sturm

import (
	"iter"
	"slices"
	"strings"
	"sync"
	"testing"

	"surd/api"
	"surd/parts"
	"surd/poly"
	"surd/ratio"
)

func read(t *testing.T, s string) poly.Poly {
	t.Helper()
	p, e, at := poly.Parse(s)
	if e != api.OK {
		t.Fatalf("D2: Parse(%q): %d, %d", s, e, at)
	}
	return p
}

func rat(t *testing.T, s string) ratio.Rat {
	t.Helper()
	a, ok := ratio.Parse(s)
	if !ok {
		t.Fatalf("B2: Parse(%q) is refused", s)
	}
	return a
}

// rats reads fractions, blanks between them.
func rats(t *testing.T, s string) []ratio.Rat {
	t.Helper()
	var l []ratio.Rat
	for _, w := range strings.Fields(s) {
		l = append(l, rat(t, w))
	}
	return l
}

// withRoots multiplies x less each of the roots, and a factor that has none.
func withRoots(t *testing.T, roots []ratio.Rat, factor string) poly.Poly {
	t.Helper()
	p := read(t, factor)
	for _, r := range roots {
		p = p.Times(poly.Of([]ratio.Rat{ratio.Rat{}.Minus(r), rat(t, "1")}))
	}
	return p
}

// samples is polynomials of all sorts, but for 0.
func samples(t *testing.T) []poly.Poly {
	t.Helper()
	var l []poly.Poly
	for _, s := range []string{"1", "-2/3", "x", "-5x", "x-1", "-2x+1/3", "x^2-2", "3x^2+3", "x^2", "x^3-1", "x^2-1", "x^3-x^2-x+1", "-x^4+4", "x^8-1", "1/7x^6-x^3", "x^4-5x^2+4", "x^5-x-1", "-x^8+40x^6-300x^4+500x^2-100", "999999999999x^8-1/999999999999x+7"} {
		l = append(l, read(t, s))
	}
	return append(l,
		withRoots(t, rats(t, "0 0 0 1 1 -3 -3 -3 -3 1/2"), "-2x^2-1"),
		withRoots(t, rats(t, "-1 -2 -3 -4 -5 -6 -7 -8 -9 -10"), "1/5"),
		withRoots(t, rats(t, "100000000000000000000 100000000000000000001 -100000000000000000000/3"), "x^2+x+1"))
}

func TestAll(t *testing.T) { // F1
	for _, c := range []struct {
		p    string
		want int
	}{
		{"0", -1}, {"5", 0}, {"-1/3", 0},
		{"x", 1}, {"-7x+2", 1}, {"x^2-2", 2}, {"-x^2+2", 2}, {"x^2+1", 0}, {"-x^2-1", 0}, {"x^2-2x+1", 1}, {"x^8", 1},
		{"x^3-3x+2", 2}, {"x^3-3x+1", 3}, {"x^3-3x+3", 1}, {"x^4-5x^2+4", 4}, {"x^5-x-1", 1}, {"x^8-1", 2}, {"x^8+1", 0}, {"x^7-x", 3},
		{"x^6-6x^5+15x^4-20x^3+15x^2-6x+1", 1}, {"x^4-4x^2+4", 2}, {"x^4+2x^2+1", 0},
		{"x^2-2x+999999999998/999999999999", 2}, {"x^2-2x+999999999999/999999999998", 0},
		{"x^8-36x^6+303x^4-628x^2+36", 8}, {"1/2x^2+1/3x-1/5", 2},
	} {
		if n := All(read(t, c.p)); n != c.want {
			t.Errorf("F1: All(%s): %d, want %d", c.p, n, c.want)
		}
	}
}

// known counts those of rising roots that are above a and at most b, each once.
func known(roots []ratio.Rat, isAbove, isAtMost func(ratio.Rat) bool) int {
	n := 0
	for i, r := range roots {
		if isAbove(r) && isAtMost(r) && (i == 0 || r.Order(roots[i-1]) != 0) {
			n++
		}
	}
	return n
}

func TestCountsOfKnownRoots(t *testing.T) { // F1
	for _, c := range []struct{ roots, factor string }{
		{"", "7"}, {"", "-x^2-1"}, {"0", "1"}, {"1/2", "-3"}, {"-1 0 1", "1"}, {"-1 0 1", "-x^2-x-1"},
		{"2 2", "1"}, {"-1 -1 -1 2", "-1/2"}, {"-3/2 -3/2 0 0 0 0 1/3 1/3 1/3 5", "1"}, {"-3/2 -3/2 0 0 0 0 1/3 1/3 1/3 5", "x^4+2x^2+1"},
		{"-7 -6 -5 -4 -3 -2 -1 0 1 2 3 4", "2"}, {"333333333333/1000000000000 1/3 333333333334/1000000000000", "1"},
	} {
		roots := rats(t, c.roots)
		p := withRoots(t, roots, c.factor)
		every := func(ratio.Rat) bool { return true }
		if n := All(p); n != known(roots, every, every) {
			t.Errorf("F1: All(%s): %d", p.Text(), n)
		}
		places := append(rats(t, "-100 -3/2 -1 -1/2 0 1/4 1/2 2 4 5 100"), roots...)
		for _, b := range places {
			isAtMost := func(r ratio.Rat) bool { return r.Order(b) <= 0 }
			if n := Below(p, b); n != known(roots, every, isAtMost) {
				t.Errorf("F1: Below(%s, %s): %d", p.Text(), b.Text(), n)
			}
			for _, a := range places {
				isAbove := func(r ratio.Rat) bool { return r.Order(a) > 0 }
				if n := Between(p, a, b); n != known(roots, isAbove, isAtMost) {
					t.Errorf("F1: Between(%s, %s, %s): %d", p.Text(), a.Text(), b.Text(), n)
				}
			}
		}
	}
}

func TestCountsOfRootsThatAreNoFractions(t *testing.T) { // F1
	p := read(t, "x^4-4x^2+4") // the root of 2, and the other one, twice each
	for _, c := range []struct {
		x    string
		want int
	}{{"-2", 0}, {"-141421356238/100000000000", 0}, {"-141421356237/100000000000", 1}, {"0", 1}, {"141421356237/100000000000", 1}, {"141421356238/100000000000", 2}, {"2", 2}} {
		if n := Below(p, rat(t, c.x)); n != c.want {
			t.Errorf("F1: Below(%s, %s): %d, want %d", p.Text(), c.x, n, c.want)
		}
	}
	if n := Between(p, rat(t, "141421356237309504880168872420/100000000000000000000000000000"), rat(t, "141421356237309504880168872421/100000000000000000000000000000")); n != 1 {
		t.Errorf("F1: Between, about the root of 2: %d", n)
	}
}

func TestEdgesOfBetween(t *testing.T) { // F1
	p := read(t, "x^3-x")
	for _, c := range []struct {
		a, b string
		want int
	}{{"-1", "1", 2}, {"-1", "0", 1}, {"0", "1", 1}, {"-2", "-1", 1}, {"1", "2", 0}, {"1", "1", 0}, {"2", "2", 0}, {"2", "-2", 0}, {"1", "-1", 0}, {"-1/2", "1/2", 1}} {
		if n := Between(p, rat(t, c.a), rat(t, c.b)); n != c.want {
			t.Errorf("F1: Between(x^3-x, %s, %s): %d, want %d", c.a, c.b, n, c.want)
		}
	}
}

func TestCountsOfZero(t *testing.T) { // F1
	zero := poly.Poly{}
	one, two := rat(t, "1"), rat(t, "2")
	for i, n := range []int{All(zero), Below(zero, one), Between(zero, one, two), Between(zero, one, one), Between(zero, two, one)} {
		if n != -1 {
			t.Errorf("F1: count %d of 0: %d", i, n)
		}
	}
}

func TestChanges(t *testing.T) { // F2
	for _, c := range []struct {
		p    string
		want int
	}{
		{"0", 0}, {"5", 0}, {"-5", 0}, {"x", 0}, {"x-1", 1}, {"-x+1", 1}, {"-x-1", 0}, {"x^2+1", 0}, {"x^2-1", 1},
		{"x^3-x", 1}, {"x^3-3x+2", 2}, {"x^4-x^3+x^2-x+1", 4}, {"x^8-x^4+1", 2}, {"-x^8-x^4-1/2", 0}, {"x^8+x^3-x^2-x+1/2", 2},
		{"-x^7+1/3x^6+x^2-x", 2}, {"x^8-x^7+x^6-x^5+x^4-x^3+x^2-x+1", 8},
	} {
		if n := Changes(read(t, c.p)); n != c.want {
			t.Errorf("F2: Changes(%s): %d, want %d", c.p, n, c.want)
		}
	}
}

func TestBound(t *testing.T) { // F3
	for _, s := range []string{"0", "1", "-7", "1000000/3"} {
		if b := Bound(read(t, s)); b.Text() != "1" {
			t.Errorf("F3: Bound(%s): %s", s, b.Text())
		}
	}
	l := append(samples(t), read(t, "x^8-99"), read(t, "x-999999999999"), read(t, "1/999999999999x+999999999999"), read(t, "-1/2x^3+7x^2-1"), read(t, "x^3-x^2-x-1"))
	for _, p := range append(l, withRoots(t, rats(t, "-1000 -999 -998"), "3"), withRoots(t, rats(t, "1000 1000"), "-1/3")) {
		b := Bound(p)
		if sign(b) <= 0 || Between(p, ratio.Rat{}.Minus(b), b) != All(p) || sign(p.At(b)) == 0 {
			t.Errorf("F3: Bound(%s): %s", p.Text(), b.Text())
		}
	}
}

// aboveZero counts the roots above 0, each as often as it stands in p.
func aboveZero(p poly.Poly) int {
	n := 0
	for _, a := range parts.Parts(p) {
		n += a.Times * (All(a.Poly) - Below(a.Poly, ratio.Rat{}))
	}
	return n
}

func TestChangesAreRootsAboveZeroOrMore(t *testing.T) { // F4
	for _, p := range samples(t) {
		if more := Changes(p) - aboveZero(p); more < 0 || more%2 != 0 {
			t.Errorf("F4: Changes(%s): %d, and %d roots above 0", p.Text(), Changes(p), aboveZero(p))
		}
	}
	if p := withRoots(t, rats(t, "1 1 2 2 2 1/3"), "-4"); Changes(p) != 6 { // all roots are fractions: there are no more changes
		t.Errorf("F4: Changes(%s): %d", p.Text(), Changes(p))
	}
}

func TestRootsOfProducts(t *testing.T) { // F4
	l := samples(t)
	for _, p := range l {
		for _, q := range l {
			both, common := p.Times(q), parts.GCD(p, q)
			if n := All(p) + All(q) - All(common); All(both) != n {
				t.Errorf("F4: All(%s): %d, want %d", both.Text(), All(both), n)
			}
			x := rat(t, "1")
			if n := Below(p, x) + Below(q, x) - Below(common, x); Below(both, x) != n {
				t.Errorf("F4: Below(%s, 1): %d, want %d", both.Text(), Below(both, x), n)
			}
		}
	}
}

func TestBetweenRootsThereIsOneOfTheSlope(t *testing.T) { // F4
	for _, p := range samples(t) {
		if n := All(p); n > 0 && p.Degree() > 1 && All(p.Slope()) < n-1 {
			t.Errorf("F4: %s has %d roots, its slope %d", p.Text(), n, All(p.Slope()))
		}
	}
	roots := rats(t, "-5 -9/2 -1 0 1/3 1/2 1 7")
	for _, factor := range []string{"1", "-x^2-1", "x^4+x+1"} {
		slope := withRoots(t, roots, factor).Slope() // not 0 at a root that stands once
		for i, b := range roots[1:] {
			if a := roots[i]; Between(slope, a, b) < 1 {
				t.Errorf("F4: no root of %s between %s and %s", slope.Text(), a.Text(), b.Text())
			}
		}
	}
}

func TestSequencesStop(t *testing.T) {
	p := read(t, "x^3-2x^2+3x-4")
	first := func(l iter.Seq[int]) int {
		for s := range l {
			return s
		}
		return 0
	}
	if first(signs(fromHighest(p), sign)) != 1 || len(slices.Collect(fromHighest(p))) != 4 {
		t.Error("F2: the coefficients' row")
	}
}

func TestManyAtATime(t *testing.T) { // G1, G3
	p := withRoots(t, rats(t, "0 0 1 -3 -3"), "x^2-2")
	text := p.Text()
	var all sync.WaitGroup
	answers := make([][4]int, 8)
	for i := range answers {
		all.Go(func() {
			answers[i] = [4]int{All(p), Below(p, ratio.Rat{}), Between(p, ratio.Rat{}, Bound(p)), Changes(p)}
		})
	}
	all.Wait()
	for _, a := range answers {
		if a != [4]int{5, 3, 2, 2} {
			t.Errorf("G1: %v", a)
		}
	}
	if p.Text() != text {
		t.Errorf("G1: %s has become %s", text, p.Text())
	}
}
