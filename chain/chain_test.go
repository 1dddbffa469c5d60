package chain

import (
	"slices"
	"testing"

	"surd/api"
	"surd/poly"
	"surd/ratio"
	"surd/whole"
)

func read(t *testing.T, s string) poly.Poly {
	t.Helper()
	p, e, at := poly.Parse(s)
	if e != api.OK {
		t.Fatalf("Parse(%q): %d, %d", s, e, at)
	}
	return p
}

func texts(t *testing.T, p, q string) []string {
	t.Helper()
	var l []string
	for r := range Of(read(t, p), read(t, q)) {
		l = append(l, r.Text())
	}
	return l
}

func TestChains(t *testing.T) {
	for _, c := range []struct {
		p, q string
		want []string
	}{
		{"0", "0", []string{"0"}},
		{"0", "-6x+4", []string{"0", "-3x+2"}},
		{"-6x+4", "0", []string{"-3x+2"}},
		{"-7/3", "0", []string{"-1"}},
		{"5", "x", []string{"1", "x", "-1"}},
		{"x^2-2", "2x", []string{"x^2-2", "x", "1"}},
		{"1/2x^2-1/3", "-x", []string{"3x^2-2", "-x", "1"}},
		{"x^3-3x+2", "3x^2-3", []string{"x^3-3x+2", "x^2-1", "x-1"}},
		{"x^4-1", "-2x^2+1", []string{"x^4-1", "-2x^2+1", "1"}},
		{"x^4+1", "-3x+1", []string{"x^4+1", "-3x+1", "-1"}},
	} {
		if l := texts(t, c.p, c.q); !slices.Equal(l, c.want) {
			t.Errorf("Of(%s, %s): %q, want %q", c.p, c.q, l, c.want)
		}
	}
}

// isLeast tells whether the coefficients are whole and have nothing in common.
func isLeast(p poly.Poly) bool {
	var common whole.Int
	for i := range p.Degree() + 1 {
		if p.Coef(i).Den().Text() != "1" {
			return false
		}
		common = common.GCD(p.Coef(i).Num())
	}
	return common.Text() == "1"
}

// isBelow tells whether p is q, multiplied with a number below 0.
func isBelow(p, q poly.Poly) bool {
	factor, rest, ok := p.Split(q)
	return ok && rest.Degree() < 0 && factor.Degree() == 0 && factor.Coef(0).Order(ratio.Rat{}) < 0
}

func TestEachIsLeftOfTheTwoAhead(t *testing.T) {
	for _, s := range []string{"x^8-5x^7+1/3x^5-7x^2+x-2/9", "-999999999999x^8+x^3-1/999999999998x+5", "-2x^6+x^5-x+1/2", "x^7-x", "x^5+3x^4-1/2"} {
		p := read(t, s)
		l := slices.Collect(Of(p, p.Slope()))
		for i, q := range l {
			if !isLeast(q) {
				t.Errorf("of %s: %s is not least", s, q.Text())
			}
			if i < 2 {
				continue
			}
			if _, rest, _ := l[i-2].Split(l[i-1]); !isBelow(rest, q) {
				t.Errorf("of %s: %s, then %s, then %s", s, l[i-2].Text(), l[i-1].Text(), q.Text())
			}
		}
		if _, rest, _ := l[len(l)-2].Split(l[len(l)-1]); rest.Degree() >= 0 {
			t.Errorf("of %s: the last one leaves %s", s, rest.Text())
		}
	}
}

func TestChainStopsAndBeginsAgain(t *testing.T) {
	p := read(t, "x^5-x-1")
	all := Of(p, p.Slope())
	for range 2 {
		n := 0
		for range all {
			n++
			if n == 2 {
				break
			}
		}
		if n != 2 || len(slices.Collect(all)) != 4 {
			t.Errorf("%d taken, then %d", n, len(slices.Collect(all)))
		}
	}
}
