package tests

import (
	"fmt"
	"math"
	"testing"

	"loop.example/g00319/impl"
)

// rowCounts are all numbers of rows of which there are proofs.
var rowCounts = []int64{2, 4, 8, 16}

// noRowCounts are numbers of rows of which there are none.
func noRowCounts() []int64 {
	out := []int64{math.MinInt64, -1 << 32, -16, -8, -4, -2, 64, 128, 65536, 1 << 32, 1 << 62, math.MaxInt64}
	for n := int64(-1); n <= 33; n++ {
		if n != 2 && n != 4 && n != 8 && n != 16 {
			out = append(out, n)
		}
	}
	return out
}

func power(a int64, n int64) int64 {
	product := int64(1)
	for ; n > 0; n /= 2 {
		if n%2 == 1 {
			product = mod(product * a)
		}
		a = mod(a * a)
	}
	return product
}

// rootOf is RootOf, reckoned without the program.
func rootOf(n int64) int64 { return pointsOf(n, 1)[1] }

// fromValues reckons without the program the polynomial of at most len(l) coefficients that has
// these values at the points of as many: a coefficient is a sum over the inverse powers.
func fromValues(l []int64, shift int64) []int64 {
	n := int64(len(l))
	back := power(rootOf(n), n-1)
	out := make([]int64, n)
	for k := range n {
		sum := int64(0)
		for i, a := range l {
			sum = mod(sum + mod(a*power(back, mod(int64(i)*k)%n)))
		}
		out[k] = mod(sum * power(mod(n*power(shift, k)), prime-2))
	}
	return sumOf(out, nil)
}

// turned is f(g z).
func turned(f []int64, g int64) []int64 {
	var out []int64
	factor := int64(1)
	for _, c := range f {
		out = append(out, mod(c*factor))
		factor = mod(factor * g)
	}
	return out
}

func scaled(f []int64, c int64) []int64 { return productOf(f, []int64{mod(c)}) }

// ruleOver is the polynomial that a rule makes of two.
func ruleOver(r impl.Rule, x []int64, y []int64) []int64 {
	sum := scaled(productOf(x, x), r.XX)
	sum = sumOf(sum, scaled(productOf(x, y), r.XY))
	sum = sumOf(sum, scaled(productOf(y, y), r.YY))
	sum = sumOf(sum, scaled(x, r.X))
	sum = sumOf(sum, scaled(y, r.Y))
	return sumOf(sum, []int64{r.K})
}

// overRows divides f by (z to the n, less 1), and says whether nothing is left.
func overRows(f []int64, n int64) ([]int64, bool) {
	rest := append(append([]int64{}, f...), make([]int64, n)...)
	quotient := make([]int64, len(rest))
	for i := int64(len(rest)) - 1; i >= n; i-- {
		quotient[i-n] = rest[i]
		rest[i-n] = mod(rest[i-n] + rest[i])
		rest[i] = 0
	}
	return sumOf(quotient, nil), len(sumOf(rest, nil)) == 0
}

// missOf is (f(g z), less the rule of x and y) times (z less the row free).
func missOf(f []int64, r impl.Rule, x []int64, y []int64, n int64, free int64) []int64 {
	miss := sumOf(turned(f, rootOf(n)), scaled(ruleOver(r, x, y), -1))
	return productOf(miss, []int64{mod(-power(rootOf(n), free)), 1})
}

// columns are the polynomials through states at the points of as many.
func columns(states []impl.State) ([]int64, []int64) {
	var xs, ys []int64
	for _, s := range states {
		xs, ys = append(xs, s.X), append(ys, s.Y)
	}
	return fromValues(xs, 1), fromValues(ys, 1)
}

// provedWith is reckoned without the program: the proof of these states, of which any may stand
// behind the row free. It says whether there are such quotients.
func provedWith(m impl.Machine, states []impl.State, free int64) (impl.Proof, bool) {
	n := int64(len(states))
	x, y := columns(states)
	qx, xOk := overRows(missOf(x, m.X, x, y, n, free), n)
	qy, yOk := overRows(missOf(y, m.Y, x, y, n, free), n)
	return impl.Proof{
		Start: states[0],
		End:   states[n-1],
		X:     valuesOf(x, 4*n, 3),
		Y:     valuesOf(y, 4*n, 3),
		QX:    valuesOf(qx, 4*n, 3),
		QY:    valuesOf(qy, 4*n, 3),
	}, xOk && yOk
}

// honest is what Proved has to answer.
func honest(t *testing.T, m impl.Machine, s impl.State, n int64) impl.Proof {
	t.Helper()
	p, ok := provedWith(m, runOf(m, s, n-1), n-1)
	if !ok {
		t.Fatalf("no proof of %d rows of %v from %v", n, m, s)
	}
	return p
}

func listsIn(p *impl.Proof) []*[]int64 { return []*[]int64{&p.X, &p.Y, &p.QX, &p.QY} }

func copyOf(p impl.Proof) impl.Proof {
	for _, l := range listsIn(&p) {
		*l = append([]int64{}, *l...)
	}
	return p
}

func sameProof(a impl.Proof, b impl.Proof) bool {
	return a.Start == b.Start && a.End == b.End && same(a.X, b.X) && same(a.Y, b.Y) && same(a.QX, b.QX) && same(a.QY, b.QY)
}

func isNothing(p impl.Proof) bool { return sameProof(p, impl.Proof{}) }

// wantJudged holds what is said of a proof with n rows against what has to be said: X and Y
// follow from Start alone, and QX and QY from these, so just one proof is accepted for each
// Start. Whatever is accepted then claims what is true.
func wantJudged(t *testing.T, what string, m impl.Machine, p impl.Proof, n int64) {
	t.Helper()
	wantNumber(t, what+": rows", impl.RowsOf(p), n)
	accepted, want := impl.Accepted(m, p), sameProof(p, honest(t, m, p.Start, n))
	if accepted != want {
		t.Errorf("%s: accepted is %v", what, accepted)
	}
	if end := runOf(m, p.Start, n-1)[n-1]; accepted && end != p.End {
		t.Errorf("%s: accepted, but it leads to %v, not to %v", what, end, p.End)
	}
}

func wantRefused(t *testing.T, what string, m impl.Machine, p impl.Proof) {
	t.Helper()
	if impl.Accepted(m, p) {
		t.Errorf("%s: accepted", what)
	}
}

func wantNoRows(t *testing.T, what string, m impl.Machine, p impl.Proof) {
	t.Helper()
	wantNumber(t, what+": rows", impl.RowsOf(p), 0)
	wantRefused(t, what, m, p)
}

// forProofs calls f with some machines, states and all numbers of rows, and the proof of each.
func forProofs(t *testing.T, f func(m impl.Machine, n int64, p impl.Proof, what string)) {
	t.Helper()
	s := series(61)
	starts := []impl.State{{}, {X: 1, Y: 1}, {X: s.element(), Y: s.element()}, {X: prime - 1, Y: prime - 1}}
	for i, m := range someMachines()[:7] {
		for _, start := range starts {
			for _, n := range rowCounts {
				f(m, n, honest(t, m, start, n), fmt.Sprint("machine ", i, ", ", n, " rows from ", start))
			}
		}
	}
}

func TestLimitOfRows(t *testing.T) {
	wantNumber(t, "MaxRows", impl.MaxRows, 16)
}

func TestRowsAreCountedByTheLists(t *testing.T) {
	s := series(62)
	for length := range 300 {
		want := int64(0)
		if length == 8 || length == 16 || length == 32 || length == 64 {
			want = int64(length) / 4
		}
		what := fmt.Sprint("rows of ", length, " values")
		wantNumber(t, what+", any", impl.RowsOf(impl.Proof{X: s.list(length), Y: s.list(length), QX: s.list(length), QY: s.list(length)}), want)
		nought := make([]int64, length)
		highest := impl.State{X: prime - 1, Y: prime - 1}
		wantNumber(t, what+", nought", impl.RowsOf(impl.Proof{X: nought, Y: nought, QX: nought, QY: nought}), want)
		wantNumber(t, what+", highest states", impl.RowsOf(impl.Proof{Start: highest, End: highest, X: nought, Y: nought, QX: nought, QY: nought}), want)
	}
}

func TestListsThatAreNotAllAsLong(t *testing.T) {
	forProofs(t, func(m impl.Machine, n int64, p impl.Proof, what string) {
		for i := range 4 {
			l := *listsIn(&p)[i]
			others := [][]int64{nil, {}, l[:1], l[:len(l)/2], l[:len(l)-1], l[1:], append(copyOf(p).X, 0), append(copyOf(p).X, 1), make([]int64, 2*len(l)), make([]int64, 4*len(l))}
			for j, other := range others {
				wrong := p
				*listsIn(&wrong)[i] = other
				wantNoRows(t, fmt.Sprint(what, ": list ", i, " as other ", j), m, wrong)
			}
		}
		cut := p
		for _, l := range listsIn(&cut) {
			*l = (*l)[:len(*l)-1]
		}
		wantNoRows(t, what+": all lists cut by one", m, cut)
	})
}

func TestListsThatAreNotAllElements(t *testing.T) {
	forProofs(t, func(m impl.Machine, n int64, p impl.Proof, what string) {
		for i := range 4 {
			for _, place := range []int64{0, 1, 2 * n, 4*n - 1} {
				for _, a := range append(noElements, (*listsIn(&p)[i])[place]+prime, (*listsIn(&p)[i])[place]-prime) {
					wrong := copyOf(p)
					(*listsIn(&wrong)[i])[place] = a
					wantNoRows(t, fmt.Sprint(what, ": ", a, " at place ", place, " of list ", i), m, wrong)
				}
			}
		}
	})
}

func TestStartOrEndThatIsNotRight(t *testing.T) {
	forProofs(t, func(m impl.Machine, n int64, p impl.Proof, what string) {
		wrongs := noStates()
		for _, s := range []impl.State{p.Start, p.End} {
			wrongs = append(wrongs, impl.State{X: s.X + prime, Y: s.Y}, impl.State{X: s.X, Y: s.Y - prime})
		}
		for _, s := range wrongs {
			wrong := p
			wrong.Start = s
			wantNoRows(t, fmt.Sprint(what, ": Start ", s), m, wrong)
			wrong = p
			wrong.End = s
			wantNoRows(t, fmt.Sprint(what, ": End ", s), m, wrong)
		}
	})
}

func TestNoProofIsRefused(t *testing.T) {
	for _, m := range append(someMachines(), noMachines()...) {
		wantNoRows(t, "no proof", m, impl.Proof{})
	}
}

func TestProvedIsTheProofOfTheRun(t *testing.T) {
	forRuns(func(m impl.Machine, s impl.State, what string) {
		for _, n := range rowCounts {
			p, ok := impl.Proved(m, s, n)
			if want := honest(t, m, s, n); !ok || !sameProof(p, want) {
				t.Errorf("%s, %d rows: %v %v, wanted %v", what, n, p, ok, want)
			}
		}
	})
}

func TestWhatAnHonestOneProvesIsAccepted(t *testing.T) {
	forRuns(func(m impl.Machine, s impl.State, what string) {
		for _, n := range rowCounts {
			p, ok := impl.Proved(m, s, n)
			if !ok || impl.RowsOf(p) != n || !impl.Accepted(m, p) {
				t.Errorf("%s, %d rows: not accepted", what, n)
			}
			end, ok := impl.After(m, s, n-1)
			if !ok || p.Start != s || p.End != end {
				t.Errorf("%s, %d rows: from %v to %v, wanted to %v", what, n, p.Start, p.End, end)
			}
		}
	})
}

func TestAProofThatIsKnown(t *testing.T) {
	// x is 1 and then 2, so it is 3/2 - z/2; the run stands still but for K.
	m := impl.Machine{X: impl.Rule{X: 1, K: 1}, Y: impl.Rule{Y: 1}}
	p, ok := impl.Proved(m, impl.State{X: 1, Y: 5}, 2)
	if !ok || p.End != (impl.State{X: 2, Y: 5}) {
		t.Fatalf("from %v to %v, %v", p.Start, p.End, ok)
	}
	half := int64(32769)
	wantList(t, "X", p.X, valuesOf([]int64{mod(3 * half), mod(-half)}, 8, 3))
	wantList(t, "Y", p.Y, []int64{5, 5, 5, 5, 5, 5, 5, 5})
	// x(-z) - x(z) - 1 is z - 1, and (z - 1) (z + 1) is z to the 2, less 1.
	wantList(t, "QX", p.QX, []int64{1, 1, 1, 1, 1, 1, 1, 1})
	wantList(t, "QY", p.QY, make([]int64, 8))
}

func TestProvedRefuses(t *testing.T) {
	one := impl.State{X: 1, Y: 1}
	refused := func(what string, m impl.Machine, s impl.State, rows int64) {
		t.Helper()
		if p, ok := impl.Proved(m, s, rows); ok || !isNothing(p) {
			t.Errorf("%s: %v %v", what, p, ok)
		}
	}
	for _, rows := range noRowCounts() {
		refused(fmt.Sprint(rows, " rows"), fib(), one, rows)
		refused(fmt.Sprint(rows, " rows of noughts"), impl.Machine{}, impl.State{}, rows)
		refused(fmt.Sprint(rows, " rows and no machine"), noMachines()[0], one, rows)
	}
	for _, rows := range rowCounts {
		for _, m := range noMachines() {
			refused(fmt.Sprint("machine ", m), m, one, rows)
			refused(fmt.Sprint("machine ", m, " from nought"), m, impl.State{}, rows)
		}
		for _, s := range noStates() {
			refused(fmt.Sprint("from ", s), fib(), s, rows)
			refused(fmt.Sprint("noughts from ", s), impl.Machine{}, s, rows)
		}
	}
}

func TestAMachineThatIsNotRightAcceptsNothing(t *testing.T) {
	forProofs(t, func(m impl.Machine, n int64, p impl.Proof, what string) {
		for i := range 12 {
			for _, change := range []int64{prime, -prime, 1 << 40 * prime} {
				// The same modulo Prime, and so the same rule, were it elements.
				wrong := m
				*numbersIn(&wrong)[i] += change
				wantRefused(t, fmt.Sprint(what, ": number ", i, " changed by ", change), wrong, p)
			}
		}
	})
	for _, m := range noMachines() {
		wantRefused(t, "no machine", m, impl.Proof{X: make([]int64, 8), Y: make([]int64, 8), QX: make([]int64, 8), QY: make([]int64, 8)})
	}
}
