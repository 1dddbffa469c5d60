package root

import (
	"slices"
	"strconv"
	"strings"
	"sync"
	"testing"

	"surd/poly"
	"surd/ratio"
	"surd/sturm"
	"surd/whole"
)

// told is digits and times of all roots.
func told(l []Root, n int) string {
	var texts []string
	for _, r := range l {
		text := r.Digits(n)
		if r.Times() != 1 {
			text += "*" + strconv.Itoa(r.Times())
		}
		texts = append(texts, text)
	}
	return strings.Join(texts, " ")
}

// rootsOfText is the roots of a polynomial that has so many.
func rootsOfText(t *testing.T, s string, n int) []Root {
	t.Helper()
	l := Roots(read(t, s))
	if len(l) != n {
		t.Fatalf("H1: Roots(%s): %d, want %d", s, len(l), n)
	}
	return l
}

func TestNoRoots(t *testing.T) { // H1, G2
	for _, s := range []string{"0", "3", "-1/2", "x^2+1", "-x^2-1", "x^4+x^2+1", "x^4+2x^2+1", "x^8+1", "x^2-2x+999999999999/999999999998"} {
		if l := Roots(read(t, s)); l != nil {
			t.Errorf("H1: Roots(%s): %d roots, want nil", s, len(l))
		}
	}
	if Roots(poly.Poly{}) != nil {
		t.Error("H1: Roots of the zero value")
	}
}

func TestRoots(t *testing.T) { // H1, H2
	for _, c := range []struct {
		p    string
		n    int
		want string
	}{
		{"x", 0, "0"}, {"x", 2, "0.00"}, {"x^8", 1, "0.0*8"}, {"-7x+2", 4, "0.2857"}, {"7x+2", 4, "-0.2858"}, {"1/3x-5", 0, "15"}, {"x+1/1000", 2, "-0.01"},
		{"x^2-2", 3, "-1.415 1.414"}, {"-x^2+2", 3, "-1.415 1.414"}, {"x^2-x-1", 5, "-0.61804 1.61803"},
		{"x^3-3x+2", 0, "-2 1*2"}, {"x^4-4x^2+4", 2, "-1.42*2 1.41*2"}, {"x^3-x^2-x+1", 1, "-1.0 1.0*2"},
		{"x^3-2x", 2, "-1.42 0.00 1.41"}, {"2x^3-x^2-4x+2", 2, "-1.42 0.50 1.41"}, {"x^6-x^4-4x^2+4", 2, "-1.42 -1.00 1.00 1.41"},
		{"x^4-10x^2+1", 4, "-3.1463 -0.3179 0.3178 3.1462"}, {"x^5-x-1", 10, "1.1673039782"}, {"x^3-3x+1", 6, "-1.879386 0.347296 1.532088"},
		{"x^8-1", 0, "-1 1"}, {"x^7-x", 1, "-1.0 0.0 1.0"}, {"x^4-5x^2+4", 0, "-2 -1 1 2"},
		{"999999999999x-1", 13, "0.0000000000010"}, {"x-999999999999", 1, "999999999999.0"}, {"999999999999x^2-1", 7, "-0.0000011 0.0000010"},
	} {
		if got := told(Roots(read(t, c.p)), c.n); got != c.want {
			t.Errorf("H1, H2: %s: %s, want %s", c.p, got, c.want)
		}
	}
}

func TestRootsCloseToEachOther(t *testing.T) { // H1, H2
	for _, c := range []struct {
		p    string
		n    int
		want string
	}{
		{"x^2-2x+999999999998/999999999999", 8, "0.99999899 1.00000100"},
		{"x^8-20000000000x^2+400000x-2", 30, "-52.100076429202038909737369745582 0.000009999999999999999999929289 0.000010000000000000000000070710 52.100069762535372242888775597500"},
		{"1000000x^3-1000001x^2-2000000x+2000002", 8, "-1.41421357 1.00000100 1.41421356"},
	} {
		if got := told(Roots(read(t, c.p)), c.n); got != c.want {
			t.Errorf("H1, H2: %s: %s, want %s", c.p, got, c.want)
		}
	}
	// A fraction as near above the square root of 2 as 12 digits go.
	l := Roots(read(t, "627013566048x-886731088897").Times(read(t, "x^2-2")))
	if told(l, 23) != "-1.41421356237309504880169 1.41421356237309504880168 1.41421356237309504880168" || told(l[1:], 25) != "1.4142135623730950488016887 1.4142135623730950488016896" {
		t.Errorf("H1, H2: %s", told(l, 25))
	}
	if _, ok := l[1].Rational(); ok {
		t.Error("H2: Rational")
	}
	if x, ok := l[2].Rational(); !ok || x.Text() != "886731088897/627013566048" {
		t.Error("H2: Rational")
	}
}

// checkRoots holds what is told of the roots of p against the numbers that they are, each as often as it stands there.
func checkRoots(t *testing.T, p poly.Poly, want []surd, times []int) []Root {
	t.Helper()
	l := Roots(p)
	if len(l) != len(want) || len(l) != sturm.All(p) {
		t.Fatalf("H1: Roots(%s): %d, want %d", p.Text(), len(l), len(want))
	}
	for i, r := range l {
		if r.Times() != times[i] {
			t.Errorf("H2: Times of root %d of %s: %d, want %d", i, p.Text(), r.Times(), times[i])
		}
		x, ok := r.Rational()
		if ok != want[i].isFraction() || ok && x.Order(want[i].a) != 0 || !ok && x.Text() != "0" {
			t.Errorf("H2: Rational of root %d of %s: %s, %v", i, p.Text(), x.Text(), ok)
		}
		checkDigits(t, r, want[i])
	}
	return l
}

// checkDigits looks whether the number is at least what the digits tell, and below one more of the last place.
func checkDigits(t *testing.T, r Root, number surd) {
	t.Helper()
	for _, n := range []int{0, 1, 7, 30} {
		text := r.Digits(n)
		if whole, places, ok := strings.Cut(text, "."); ok != (n > 0) || ok && len(places) != n || whole == "" {
			t.Errorf("H2: Digits(%d): %s", n, text)
		}
		scale, _ := whole.Of(10).Power(n)
		one, _ := ratio.Of(whole.Of(1), scale)
		a, ok := ratio.Parse(digitsAlone(text) + "/" + scale.Text())
		if !ok || number.less(a).sign() < 0 || number.less(a.Plus(one)).sign() >= 0 {
			t.Errorf("H2: Digits(%d): %s", n, text)
		}
	}
}

// digitsAlone is a text of digits without its point and without needless zeros.
func digitsAlone(text string) string {
	text, below := strings.CutPrefix(strings.Replace(text, ".", "", 1), "-")
	text = strings.TrimLeft(text, "0")
	switch {
	case text == "":
		return "0"
	case below:
		return "-" + text
	}
	return text
}

// known is a polynomial, its roots, rising, and how often they stand in it.
type known struct {
	p     poly.Poly
	roots []surd
	times []int
}

// known makes one with some roots, of which some stand more than once, and perhaps factors without roots.
func (s *source) known(size int) known {
	p := poly.Of([]ratio.Rat{s.rat(size).Plus(wholeRat(2 * size))})
	if s.between(0, 1) == 0 {
		p = ratioTimes(p, -1)
	}
	if s.between(0, 2) == 0 {
		p = p.Times(poly.Of([]ratio.Rat{wholeRat(3), wholeRat(1), wholeRat(1)}))
	}
	k := known{p: p}
	for range s.between(1, 4) {
		k.add(s.surd(size), s.between(1, 3))
	}
	return k
}

func ratioTimes(p poly.Poly, n int) poly.Poly {
	return p.Times(poly.Of([]ratio.Rat{wholeRat(n)}))
}

// add puts a root in, and its other one, if it has one.
func (k *known) add(u surd, times int) {
	for range times {
		k.p = k.p.Times(u.factor())
	}
	k.put(u, times)
	if !u.isFraction() {
		k.put(u.other(), times)
	}
}

func (k *known) put(u surd, times int) {
	i, found := slices.BinarySearchFunc(k.roots, u, surd.order)
	if found {
		k.times[i] += times
		return
	}
	k.roots = slices.Insert(k.roots, i, u)
	k.times = slices.Insert(k.times, i, times)
}

func TestRootsOfKnownNumbers(t *testing.T) { // H1, H2
	s := &source{1}
	for range 120 {
		k := s.known(s.between(2, 60))
		checkRoots(t, k.p, k.roots, k.times)
	}
}

func TestOrderOfKnownNumbers(t *testing.T) { // H2
	s := &source{2}
	for range 25 {
		// Few numbers to choose from: so there are roots that are the same in both.
		size := s.between(2, 4)
		k, m := s.known(size), s.known(size)
		l := checkRoots(t, k.p, k.roots, k.times)
		for i, r := range checkRoots(t, m.p, m.roots, m.times) {
			for j := range l {
				if got, want := l[j].Order(r), k.roots[j].order(m.roots[i]); got != want {
					t.Errorf("H2: Order: root %d of %s and root %d of %s: %d, want %d", j, k.p.Text(), i, m.p.Text(), got, want)
				}
				if l[j].Order(r) != -r.Order(l[j]) {
					t.Errorf("H2: Order: root %d of %s and root %d of %s", j, k.p.Text(), i, m.p.Text())
				}
			}
		}
	}
}

func TestSignAtKnownNumbers(t *testing.T) { // H2
	s := &source{3}
	for range 30 {
		k, m := s.known(3), s.known(3)
		for i, r := range checkRoots(t, k.p, k.roots, k.times) {
			for _, q := range []poly.Poly{m.p, k.p, m.p.Times(k.p), s.poly(s.between(0, 9), 99), s.poly(2, 3)} {
				if got, want := r.Sign(q), k.roots[i].worth(q).sign(); got != want {
					t.Errorf("H2: Sign(%s) of root %d of %s: %d, want %d", q.Text(), i, k.p.Text(), got, want)
				}
			}
		}
	}
}

func TestTimes(t *testing.T) { // H2
	p := read(t, "x^2-2")
	for range 4 {
		p = p.Times(read(t, "x^2-3"))
	}
	p = p.Times(read(t, "x^2")).Times(read(t, "2x-1")).Times(read(t, "x^2-2"))
	if got := told(Roots(p), 1); got != "-1.8*4 -1.5*2 0.0*2 0.5 1.4*2 1.7*4" {
		t.Errorf("H2: %s", got)
	}
}

func TestRational(t *testing.T) { // H2, G2
	for _, c := range []struct{ p, want string }{
		{"x", "0"}, {"3x-7", "7/3"}, {"-6x^2-x+1", "-1/2 1/3"}, {"x^2-2", "- -"}, {"x^3-2", "-"},
		{"2x^3-x^2-4x+2", "- 1/2 -"}, {"x^2-4/9", "-2/3 2/3"}, {"4x^2-4x+1", "1/2"}, {"x^2-1/999999999999", "- -"},
		{"999999999989x-999999999961", "999999999961/999999999989"}, {"x^8-256", "-2 2"}, {"x^3-5x^2", "0 5"},
		{"1/999999999989x^2-1/999999999961", "- -"}, {"999999999989x^2-2x+1/999999999989", "1/999999999989"},
		{"4x^4-17x^2+4", "-2 -1/2 1/2 2"}, {"4x^4-9x^2+2", "- -1/2 1/2 -"},
	} {
		var got []string
		for _, r := range Roots(read(t, c.p)) {
			x, ok := r.Rational()
			switch {
			case ok:
				got = append(got, x.Text())
			case x.Text() != "0":
				t.Errorf("G2: %s: %s beside false", c.p, x.Text())
			default:
				got = append(got, "-")
			}
		}
		if s := strings.Join(got, " "); s != c.want {
			t.Errorf("H2: Rational: %s: %s, want %s", c.p, s, c.want)
		}
	}
}

func TestDigits(t *testing.T) { // H2
	const least, greatest = -1 << 63, 1<<63 - 1
	for _, c := range []struct {
		p    string
		i, n int
		want string
	}{
		{"x^2-2", 1, 0, "1"}, {"x^2-2", 0, 0, "-2"}, {"x^2-2", 1, -1, "1"}, {"x^2-2", 1, least, "1"},
		{"x^2-2", 1, 1, "1.4"}, {"x^2-2", 0, 1, "-1.5"},
		{"x^2-2", 1, 30, "1.414213562373095048801688724209"}, {"x^2-2", 1, 31, "1.414213562373095048801688724209"},
		{"x^2-2", 0, 100, "-1.414213562373095048801688724210"}, {"x^2-2", 0, greatest, "-1.414213562373095048801688724210"},
		{"x-5", 0, 0, "5"}, {"x-5", 0, 2, "5.00"}, {"x+5", 0, 2, "-5.00"}, {"x+5", 0, least, "-5"}, {"x", 0, greatest, "0." + strings.Repeat("0", 30)},
		{"3x-1", 0, 40, "0." + strings.Repeat("3", 30)}, {"3x+1", 0, 31, "-0." + strings.Repeat("3", 29) + "4"}, {"3x+1", 0, 0, "-1"}, {"3x-1", 0, -7, "0"},
		{"x^2-1/999999999999", 1, 5, "0.00000"}, {"x^2-1/999999999999", 0, 5, "-0.00001"}, {"x^2-1/999999999999", 0, 0, "-1"},
		{"x^2-999999999999", 1, 6, "999999.999999"}, {"x^2-999999999999", 1, 7, "999999.9999994"}, {"x^2-999999999999", 0, 0, "-1000000"},
		{"x^2-999999999998", 1, 5, "999999.99999"}, {"x^2-999999999998", 1, 6, "999999.999998"}, {"x^2-999999999998", 0, 6, "-999999.999999"},
	} {
		if got := Roots(read(t, c.p))[c.i].Digits(c.n); got != c.want {
			t.Errorf("H2: %s: Digits(%d) of root %d: %s, want %s", c.p, c.n, c.i, got, c.want)
		}
	}
}

func TestDigitsWhereManyNinesAre(t *testing.T) { // H2: a root that is no fraction, less than 10 to the power of -100 below 1
	small, _ := whole.Of(10).Power(100)
	tiny, _ := ratio.Of(whole.Of(1), small)
	p := poly.Of([]ratio.Rat{tiny.Minus(wholeRat(1)), ratio.Rat{}, wholeRat(1)})
	l := Roots(p)
	if got := told(l, 30); got != "-1."+strings.Repeat("0", 30)+" 0."+strings.Repeat("9", 30) {
		t.Errorf("H2: %s", got)
	}
	if told(l, 0) != "-1 0" {
		t.Errorf("H2: %s", told(l, 0))
	}
}

func TestOrder(t *testing.T) { // H2
	a, b := rootsOfText(t, "x^2-2", 2), rootsOfText(t, "x^4-4", 2)
	c, d := rootsOfText(t, "2x^3-x^2-4x+2", 3), rootsOfText(t, "x^4-4x^2+4", 2)
	half, e := rootsOfText(t, "2x-1", 1), rootsOfText(t, "x^4-10x^2+1", 4)
	for _, x := range []struct {
		r, s Root
		want int
	}{
		{a[0], b[0], 0}, {a[1], b[1], 0}, {a[0], b[1], -1}, {a[1], b[0], 1}, {a[1], a[1], 0}, {a[1], a[0], 1},
		{c[0], a[0], 0}, {c[2], b[1], 0}, {c[2], d[1], 0}, {c[1], half[0], 0}, {c[1], a[1], -1}, {c[1], a[0], 1},
		{e[0], a[0], -1}, {e[1], a[0], 1}, {e[2], half[0], -1}, {e[3], a[1], 1},
		{rootsOfText(t, "1000000x-1414213", 1)[0], a[1], -1}, {rootsOfText(t, "1000000x-1414214", 1)[0], a[1], 1},
	} {
		if got := x.r.Order(x.s); got != x.want {
			t.Errorf("H2: Order of %s and %s: %d, want %d", x.r.Digits(9), x.s.Digits(9), got, x.want)
		}
		if got := x.s.Order(x.r); got != -x.want {
			t.Errorf("H2: Order of %s and %s: %d, want %d", x.s.Digits(9), x.r.Digits(9), got, -x.want)
		}
	}
}

func TestOrderOfNumbersThatAreClose(t *testing.T) { // H2
	// The roots of the second one are those of the first one, but for one part in 10 to the power of 60.
	small, _ := whole.Of(10).Power(60)
	tiny, _ := ratio.Of(whole.Of(1), small)
	for _, s := range []string{"x^2-2", "x^3-3x+1", "x^5-x-1", "x^4-10x^2+1"} {
		p := read(t, s)
		l, m := Roots(p), Roots(p.Moved(tiny))
		for i := range l {
			if l[i].Order(m[i]) != 1 || m[i].Order(l[i]) != -1 || l[i].Digits(30) == "" {
				t.Errorf("H2: Order: %s, root %d", s, i)
			}
		}
	}
}

func TestSign(t *testing.T) { // H2
	a := rootsOfText(t, "x^2-2", 2)
	half := rootsOfText(t, "2x^3-x^2-4x+2", 3)
	for _, c := range []struct {
		r    Root
		q    string
		want int
	}{
		{a[1], "0", 0}, {a[1], "5", 1}, {a[1], "-3", -1}, {half[1], "0", 0}, {half[1], "5", 1}, {half[1], "-1/3", -1},
		{a[1], "x^2-2", 0}, {a[1], "-x^4+4", 0}, {a[1], "x^3-2x", 0}, {a[1], "x^8-16", 0}, {a[1], "x^8-15", 1}, {a[1], "x^8-17", -1},
		{a[1], "x", 1}, {a[0], "x", -1}, {a[0], "-x", 1}, {a[1], "x-1", 1}, {a[0], "x^2-3", -1},
		{a[1], "1000000x-1414213", 1}, {a[1], "1000000x-1414214", -1}, {a[0], "1000000x+1414213", -1}, {a[0], "1000000x+1414214", 1},
		{a[1], "470832x-665857", -1}, {a[1], "195025x-275807", 1}, {a[1], "x^2-2x+1", 1},
		{half[1], "2x-1", 0}, {half[1], "x^2-1/4", 0}, {half[1], "x-1/3", 1}, {half[1], "x-2/3", -1}, {half[0], "2x-1", -1}, {half[2], "2x-1", 1}, {half[2], "x^2-2", 0},
	} {
		if got := c.r.Sign(read(t, c.q)); got != c.want {
			t.Errorf("H2: Sign(%s) at %s: %d, want %d", c.q, c.r.Digits(9), got, c.want)
		}
	}
}

func TestSpansThatEndAtAnotherRoot(t *testing.T) { // H2: the ends are where fractions like 0, 1 and 1/2 are
	polys := []string{"x", "-x", "x-1", "1-x", "x+1", "x^2+x", "x^3-x", "-1", "x^2-2", "2x-1", "-x^2+1/4", "0"}
	for _, numbers := range [][]surd{
		{surdOf(t, "0", "0", "0"), surdOf(t, "0", "1", "2")},
		{surdOf(t, "0", "0", "0"), surdOf(t, "1", "0", "0"), surdOf(t, "0", "1", "2")},
		{surdOf(t, "0", "0", "0"), surdOf(t, "0", "1/1000000000000000", "2")},
		{surdOf(t, "1", "0", "0"), surdOf(t, "1", "1/1000000000000000", "2")},
		{surdOf(t, "1/2", "0", "0"), surdOf(t, "-1", "0", "0"), surdOf(t, "1/2", "1/1000000000000000", "3")},
		{surdOf(t, "0", "0", "0"), surdOf(t, "0", "1000000000000000", "2")},
	} {
		k := known{p: read(t, "-1/7")}
		for _, u := range numbers {
			k.add(u, 1)
		}
		for i, r := range checkRoots(t, k.p, k.roots, k.times) {
			for _, s := range polys {
				if got, want := r.Sign(read(t, s)), k.roots[i].worth(read(t, s)).sign(); got != want {
					t.Errorf("H2: Sign(%s) at root %d of %s: %d, want %d", s, i, k.p.Text(), got, want)
				}
			}
		}
	}
}

func TestCut(t *testing.T) { // H1: what is cut off is never where the root is
	r := rootsOfText(t, "x^3-2x", 3)[2]
	r.low, r.high, r.sign = rat(t, "1"), rat(t, "2"), 1
	for _, c := range []struct{ x, low, high string }{
		{"-3", "1", "2"}, {"-1", "1", "2"}, {"1", "1", "2"}, {"5/4", "5/4", "2"}, {"3/2", "1", "3/2"}, {"2", "1", "2"}, {"3", "1", "2"},
	} {
		half := r.cut(rat(t, c.x))
		if half.low.Text() != c.low || half.high.Text() != c.high || half.sign != 1 {
			t.Errorf("H1: cut at %s: from %s to %s", c.x, half.low.Text(), half.high.Text())
		}
	}
}

func TestHalvesAreOtherValues(t *testing.T) { // G1, H1
	for _, s := range []string{"x^2-2", "x^3-3x+1", "1000000x^3-1000001x^2-2000000x+2000002"} {
		for i, r := range Roots(read(t, s)) {
			low, high, digits := r.low.Text(), r.high.Text(), r.Digits(12)
			half := r.halved()
			if r.low.Text() != low || r.high.Text() != high {
				t.Errorf("G1: root %d of %s changed", i, s)
			}
			if half.Digits(12) != digits || half.Order(r) != 0 || half.Times() != r.Times() {
				t.Errorf("H1: root %d of %s is another one in half of its span", i, s)
			}
			if _, ok := r.Rational(); !ok && half.low.Order(r.low) == 0 == (half.high.Order(r.high) == 0) {
				t.Errorf("H1: root %d of %s: the span is not halved", i, s)
			}
		}
	}
}

func TestRootsOfHighDegrees(t *testing.T) { // H1, H2, G1
	p, want := read(t, "-3"), ""
	for i := 1; i <= 20; i++ {
		p = p.Times(poly.Of([]ratio.Rat{wholeRat(-i), wholeRat(1)}))
		want += " " + strconv.Itoa(i)
	}
	if got := told(Roots(p), 0); got != want[1:] {
		t.Errorf("H1: %s", got)
	}
	last, next := read(t, "1"), read(t, "x")
	for range 23 { // polynomials that all have as many roots as their Degree, between -1 and 1
		last, next = next, next.Times(read(t, "2x")).Minus(last)
	}
	l := Roots(next)
	if len(l) != 24 || l[0].Digits(6) != "-0.997859" || l[23].Digits(6) != "0.997858" || l[11].Sign(last) != -l[12].Sign(last) {
		t.Errorf("H1: %s", told(l, 6))
	}
	coefs := make([]ratio.Rat, 101)
	coefs[0], coefs[100] = wholeRat(-2), wholeRat(1)
	if got := told(Roots(poly.Of(coefs)), 12); got != "-1.006955550057 1.006955550056" {
		t.Errorf("H1: %s", got)
	}
}

func TestRootsOfLongNumbers(t *testing.T) { // H1, H2, G1
	long, _ := whole.Parse("1" + strings.Repeat("0", 401))
	number, _ := ratio.Of(long, whole.Of(1))
	part, _ := ratio.Of(whole.Of(1), long)
	l := Roots(poly.Of([]ratio.Rat{ratio.Rat{}.Minus(number), ratio.Rat{}, wholeRat(1)}))
	if len(l) != 2 || !strings.HasPrefix(l[1].Digits(0), "316227766016837933199889") || len(l[1].Digits(0)) != 201 {
		t.Error("H2: the square root of a long number")
	}
	m := Roots(poly.Of([]ratio.Rat{ratio.Rat{}.Minus(part), ratio.Rat{}, wholeRat(1)}))
	if len(m) != 2 || m[1].Digits(30) != "0."+strings.Repeat("0", 30) || m[0].Digits(30) != "-0."+strings.Repeat("0", 29)+"1" {
		t.Error("H2: the square root of a small number")
	}
	if l[1].Order(m[1]) != 1 || m[0].Order(m[1]) != -1 || m[1].Order(l[0]) != 1 {
		t.Error("H2: Order")
	}
	k := Roots(poly.Of([]ratio.Rat{number, part}))
	if x, ok := k[0].Rational(); len(k) != 1 || !ok || x.Num().Order(whole.Int{}.Minus(long.Times(long))) != 0 {
		t.Error("H2: Rational")
	}
}

func TestZeroValue(t *testing.T) { // G1: no Root of a polynomial, but no call panics
	var r Root
	r.Times()
	r.Rational()
	r.Digits(3)
	l := Roots(read(t, "x^2-2"))
	if r.Order(l[0])*l[0].Order(r) > 0 || r.Order(r) != 0 || r.Sign(poly.Poly{}) != 0 {
		t.Error("G1: the zero value is not one number")
	}
}

func TestAnswersShareNothing(t *testing.T) { // G3, G4
	p := read(t, "x^3-2x")
	l, m := Roots(p), Roots(p)
	l[0], l[1] = l[2], l[2]
	if told(m, 3) != "-1.415 0.000 1.414" || told(Roots(p), 3) != told(m, 3) || p.Text() != "x^3-2x" {
		t.Error("G4: an answer changed")
	}
}

func TestManyAtATime(t *testing.T) { // G1, G3
	p, q := read(t, "2x^5-x^4-8x+4"), read(t, "x^4-10x^2+1")
	l := Roots(p)
	want := told(l, 20)
	var all sync.WaitGroup
	for range 8 {
		all.Go(func() {
			for i, r := range l {
				if r.Order(l[0]) != min(i, 1) || told(l, 20) != want || told(Roots(p), 20) != want || r.Sign(q) > 1 {
					t.Error("G1: at the same time something else is told")
				}
			}
		})
	}
	all.Wait()
}
