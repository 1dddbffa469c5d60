package solve

import (
	"strings"
	"sync"
	"testing"

	"surd/api"
	"surd/poly"
	"surd/ratio"
	"surd/whole"
)

var allOps = [...]string{"<", "<=", "=", "!=", ">=", ">"}

func read(t *testing.T, s string) poly.Poly {
	t.Helper()
	p, e, at := poly.Parse(s)
	if e != api.OK {
		t.Fatalf("D2: Parse(%q): %d, %d", s, e, at)
	}
	return p
}

func rat(t *testing.T, s string) ratio.Rat {
	t.Helper()
	a, ok := ratio.Parse(s)
	if !ok {
		t.Fatalf("B2: Parse(%q) is refused", s)
	}
	return a
}

// solved is what Solve answers where op is one.
func solved(t *testing.T, p poly.Poly, op string, n int) string {
	t.Helper()
	text, e := Solve(p, op, n)
	if e != api.OK {
		t.Errorf("J1: %s %s 0: %d", p.Text(), op, e)
	}
	return text
}

func TestTextsThatAreNoOps(t *testing.T) { // J1, G2
	for _, op := range []string{"", " ", "==", "=<", "=>", "<>", "!", "<<", ">>", "< ", " <", "<= ", "<=>", "!=0", "≠", "≤", "\x00", "<\x00", "\xff", "x", "lt", strings.Repeat("<", 100000)} {
		for _, p := range []string{"0", "1", "x", "x^2-2"} {
			if text, e := Solve(read(t, p), op, 2); e != api.ErrForm || text != "" {
				t.Errorf("J1: %s %.10q 0: %s, %d", p, op, text, e)
			}
		}
	}
}

func TestSolveWithEachOp(t *testing.T) { // J1, J2
	const all = "(-inf,inf)"
	for _, c := range []struct {
		p    string
		want [6]string // as in allOps
	}{
		{"0", [6]string{"none", all, all, "none", all, "none"}},
		{"3", [6]string{"none", "none", "none", all, all, all}},
		{"-1/3", [6]string{all, all, "none", all, "none", "none"}},
		{"x^2+1", [6]string{"none", "none", "none", all, all, all}},
		{"-x^2-1", [6]string{all, all, "none", all, "none", "none"}},
		{"x", [6]string{"(-inf,0)", "(-inf,0]", "{0}", "(-inf,0) (0,inf)", "[0,inf)", "(0,inf)"}},
		{"-x", [6]string{"(0,inf)", "[0,inf)", "{0}", "(-inf,0) (0,inf)", "(-inf,0]", "(-inf,0)"}},
		{"2x-1", [6]string{"(-inf,1/2)", "(-inf,1/2]", "{1/2}", "(-inf,1/2) (1/2,inf)", "[1/2,inf)", "(1/2,inf)"}},
		{"x^2-2x+1", [6]string{"none", "{1}", "{1}", "(-inf,1) (1,inf)", all, "(-inf,1) (1,inf)"}},
		{"-9x^2-6x-1", [6]string{"(-inf,-1/3) (-1/3,inf)", all, "{-1/3}", "(-inf,-1/3) (-1/3,inf)", "{-1/3}", "none"}},
		{"x^2-1", [6]string{"(-1,1)", "[-1,1]", "{-1} {1}", "(-inf,-1) (-1,1) (1,inf)", "(-inf,-1] [1,inf)", "(-inf,-1) (1,inf)"}},
		{"x^3", [6]string{"(-inf,0)", "(-inf,0]", "{0}", "(-inf,0) (0,inf)", "[0,inf)", "(0,inf)"}},
		{"x^3-3x+2", [6]string{"(-inf,-2)", "(-inf,-2] {1}", "{-2} {1}", "(-inf,-2) (-2,1) (1,inf)", "[-2,inf)", "(-2,1) (1,inf)"}},
		{"x^3-2x", [6]string{"(-inf,~-1.42) (0,~1.41)", "(-inf,~-1.42] [0,~1.41]", "{~-1.42} {0} {~1.41}",
			"(-inf,~-1.42) (~-1.42,0) (0,~1.41) (~1.41,inf)", "[~-1.42,0] [~1.41,inf)", "(~-1.42,0) (~1.41,inf)"}},
		{"x^4-4x^2+4", [6]string{"none", "{~-1.42} {~1.41}", "{~-1.42} {~1.41}", "(-inf,~-1.42) (~-1.42,~1.41) (~1.41,inf)", all, "(-inf,~-1.42) (~-1.42,~1.41) (~1.41,inf)"}},
		{"-x^5+x^4+2x^3-2x^2-x+1", [6]string{"(1,inf)", "{-1} [1,inf)", "{-1} {1}", "(-inf,-1) (-1,1) (1,inf)", "(-inf,1]", "(-inf,-1) (-1,1)"}},
		{"x^4-2x^2+1", [6]string{"none", "{-1} {1}", "{-1} {1}", "(-inf,-1) (-1,1) (1,inf)", all, "(-inf,-1) (-1,1) (1,inf)"}},
	} {
		for i, op := range allOps {
			if got := solved(t, read(t, c.p), op, 2); got != c.want[i] {
				t.Errorf("J1, J2: %s %s 0: %s, want %s", c.p, op, got, c.want[i])
			}
		}
	}
}

func TestPlacesOfEnds(t *testing.T) { // J2, H2
	const least, greatest = -1 << 63, 1<<63 - 1
	for _, c := range []struct {
		p, op string
		n     int
		want  string
	}{
		{"x^2-2", "<", 0, "(~-2,~1)"}, {"x^2-2", "<", -5, "(~-2,~1)"}, {"x^2-2", "<", least, "(~-2,~1)"},
		{"x^2-2", ">=", 1, "(-inf,~-1.5] [~1.4,inf)"},
		{"x^2-2", "=", 30, "{~-1.414213562373095048801688724210} {~1.414213562373095048801688724209}"},
		{"x^2-2", "=", 31, "{~-1.414213562373095048801688724210} {~1.414213562373095048801688724209}"},
		{"x^2-2", "=", greatest, "{~-1.414213562373095048801688724210} {~1.414213562373095048801688724209}"},
		{"3x-1", "<", 0, "(-inf,1/3)"}, {"3x-1", "<", 30, "(-inf,1/3)"}, {"x-7", "<=", 9, "(-inf,7]"},
		{"999999999989x+999999999961", ">", 1, "(-999999999961/999999999989,inf)"},
		{"x^2-1/999999999999", "<=", 3, "[~-0.001,~0.000]"},
		{"x^8-20000000000x^2+400000x-2", ">", 2, "(-inf,~-52.11) (~0.00,~0.00) (~52.10,inf)"},
	} {
		if got := solved(t, read(t, c.p), c.op, c.n); got != c.want {
			t.Errorf("J2: %s %s 0 with %d places: %s, want %s", c.p, c.op, c.n, got, c.want)
		}
	}
}

// piece is what the text of a piece tells.
type piece struct {
	low, high       ratio.Rat
	hasLow, hasHigh bool
}

// far is further away than all numbers that are looked at: it stands for an end that is not there.
const far = "1000000"

func pieceOf(t *testing.T, text string) piece {
	t.Helper()
	if len(text) < 3 || strings.HasPrefix(text, "[-inf") || strings.HasSuffix(text, "inf]") {
		t.Fatalf("J2: %s is no piece", text)
	}
	inner, ahead, behind := text[1:len(text)-1], text[0], text[len(text)-1]
	if ahead == '{' && behind == '}' {
		return piece{rat(t, inner), rat(t, inner), true, true}
	}
	low, high, ok := strings.Cut(inner, ",")
	if !ok || ahead != '(' && ahead != '[' || behind != ')' && behind != ']' {
		t.Fatalf("J2: %s is no piece", text)
	}
	low, high = strings.Replace(low, "inf", far, 1), strings.Replace(high, "inf", far, 1)
	return piece{rat(t, low), rat(t, high), ahead == '[', behind == ']'}
}

func (p piece) has(x ratio.Rat) bool {
	low, high := x.Order(p.low), x.Order(p.high)
	return (low > 0 || low == 0 && p.hasLow) && (high < 0 || high == 0 && p.hasHigh)
}

// checkPieces looks whether pieces rise, and whether none of them goes on in the next one.
func checkPieces(t *testing.T, l []piece) {
	t.Helper()
	for i, p := range l {
		if p.low.Order(p.high) > 0 || p.low.Order(p.high) == 0 && !p.hasLow {
			t.Error("J2: a piece without a number")
		}
		if i == 0 {
			continue
		}
		if gap := p.low.Order(l[i-1].high); gap < 0 || gap == 0 && (p.hasLow || l[i-1].hasHigh) {
			t.Error("J2: two pieces that are one, or fall")
		}
	}
}

// holds is what J1 says of a number and 0.
func holds(op string, sign int) bool {
	switch op {
	case "<":
		return sign == -1
	case "<=":
		return sign != 1
	case "=":
		return sign == 0
	case "!=":
		return sign != 0
	case ">=":
		return sign != -1
	}
	return sign == 1
}

// checkSet holds the pieces against p at many numbers: p's roots are multiples of 1/6, and all of them are among those numbers.
func checkSet(t *testing.T, p poly.Poly, op string) {
	t.Helper()
	var l []piece
	text := solved(t, p, op, 2)
	for _, s := range strings.Split(strings.Replace(text, "none", "", 1), " ") {
		if s != "" {
			l = append(l, pieceOf(t, s))
		}
	}
	checkPieces(t, l)
	for i := -80; i <= 80; i++ {
		x, _ := ratio.Of(whole.Of(i), whole.Of(12))
		in := false
		for _, s := range l {
			in = in || s.has(x)
		}
		if in != holds(op, p.At(x).Order(ratio.Rat{})) {
			t.Errorf("J1, J2: %s %s 0: %s, but %s", p.Text(), op, text, x.Text())
		}
	}
}

func TestSetsOfKnownRoots(t *testing.T) { // J1, J2
	state := uint64(7)
	next := func(n uint64) int {
		state = state*6364136223846793005 + 1442695040888963407
		return int((state >> 33) % n)
	}
	for range 60 {
		p := read(t, []string{"1", "-1", "2/3", "-x^2-1", "x^2+x+1"}[next(5)])
		for range next(6) {
			x, _ := ratio.Of(whole.Of(next(9)-4), whole.Of(next(3)+1))
			for range next(3) + 1 {
				p = p.Times(poly.Of([]ratio.Rat{ratio.Rat{}.Minus(x), rat(t, "1")}))
			}
		}
		for _, op := range allOps {
			checkSet(t, p, op)
		}
	}
}

func TestAnswersAreAlwaysTheSame(t *testing.T) { // G1, G3: also while others ask
	p := read(t, "x^6-x^5-4x^4+4x^3+4x^2-4x")
	var want [6]string
	for i, op := range allOps {
		want[i] = solved(t, p, op, 5)
	}
	var all sync.WaitGroup
	for range 8 {
		all.Go(func() {
			for i, op := range allOps {
				if text, e := Solve(p, op, 5); text != want[i] || e != api.OK {
					t.Errorf("G3: %s, %d, and %s ahead", text, e, want[i])
				}
			}
		})
	}
	all.Wait()
}
