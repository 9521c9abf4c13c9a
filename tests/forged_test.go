package tests

import (
	"fmt"
	"testing"

	"loop.example/g00319/impl"
)

func TestAListChangedAtOnePlace(t *testing.T) {
	forProofs(t, func(m impl.Machine, n int64, p impl.Proof, what string) {
		s := series(71)
		for i := range 4 {
			for place := range 4 * n {
				for _, change := range []int64{1, prime - 1, 1 + s.element()%(prime-1)} {
					forged := copyOf(p)
					l := *listsIn(&forged)[i]
					l[place] = mod(l[place] + change)
					wantRefused(t, fmt.Sprint(what, ": list ", i, " at place ", place), m, forged)
				}
			}
		}
	})
}

func TestListsChangedAtMorePlaces(t *testing.T) {
	forProofs(t, func(m impl.Machine, n int64, p impl.Proof, what string) {
		s := series(72)
		for range 20 {
			forged := copyOf(p)
			for range 1 + s.element()%6 {
				l := *listsIn(&forged)[s.element()%4]
				l[s.element()%(4*n)] = s.element()
			}
			wantJudged(t, what+": changed at some places", m, forged, n)
		}
		for i := range 4 {
			forged := copyOf(p)
			*listsIn(&forged)[i] = s.list(int(4 * n))
			wantJudged(t, fmt.Sprint(what, ": list ", i, " as any"), m, forged, n)
			*listsIn(&forged)[i] = make([]int64, 4*n)
			wantJudged(t, fmt.Sprint(what, ": list ", i, " as nought"), m, forged, n)
			*listsIn(&forged)[i] = valuesOf(s.poly(int(n)), 4*n, 3)
			wantJudged(t, fmt.Sprint(what, ": list ", i, " as another polynomial"), m, forged, n)
		}
	})
}

// otherStates are not s.
func otherStates(s impl.State) []impl.State {
	out := []impl.State{{X: mod(s.X + 1), Y: s.Y}, {X: s.X, Y: mod(s.Y + 1)}, {X: mod(s.X - 1), Y: mod(s.Y + 1)}}
	for _, other := range someStates() {
		if other != s {
			out = append(out, other)
		}
	}
	return out
}

func TestAnotherStartOrEnd(t *testing.T) {
	forProofs(t, func(m impl.Machine, n int64, p impl.Proof, what string) {
		for _, s := range otherStates(p.Start) {
			forged := p
			forged.Start = s
			wantRefused(t, fmt.Sprint(what, ": Start ", s), m, forged)
		}
		for _, s := range otherStates(p.End) {
			forged := p
			forged.End = s
			wantRefused(t, fmt.Sprint(what, ": End ", s), m, forged)
		}
		forged := p
		forged.Start, forged.End = p.End, p.Start
		wantJudged(t, what+": Start and End interchanged", m, forged, n)
		forged.Start, forged.End = impl.State{X: p.Start.Y, Y: p.Start.X}, impl.State{X: p.End.Y, Y: p.End.X}
		wantJudged(t, what+": X and Y of Start and End interchanged", m, forged, n)
	})
}

func TestTwoListsInterchanged(t *testing.T) {
	forProofs(t, func(m impl.Machine, n int64, p impl.Proof, what string) {
		for i := range 4 {
			for j := range i {
				forged := p
				*listsIn(&forged)[i], *listsIn(&forged)[j] = *listsIn(&p)[j], *listsIn(&p)[i]
				wantJudged(t, fmt.Sprint(what, ": lists ", j, " and ", i, " interchanged"), m, forged, n)
			}
		}
		turned := p
		for _, l := range listsIn(&turned) {
			*l = append(append([]int64{}, (*l)[4:]...), (*l)[:4]...)
		}
		wantJudged(t, what+": all lists turned by a row", m, turned, n)
	})
}

func TestAProofOfAnotherMachine(t *testing.T) {
	forProofs(t, func(m impl.Machine, n int64, p impl.Proof, what string) {
		for _, other := range someMachines() {
			wantJudged(t, fmt.Sprint(what, ": as one of ", other), other, p, n)
		}
		for i := range 12 {
			other := m
			number := numbersIn(&other)[i]
			*number = mod(*number + 1)
			wantJudged(t, fmt.Sprint(what, ": number ", i, " is another"), other, p, n)
		}
	})
}

// completed takes X and Y as they are and makes all else such that nothing but the lengths of the
// polynomials can be refused: Start and End are what they have there, and QX and QY are
// divided point by point, which is the one list that holds at all points.
func completed(m impl.Machine, xs []int64, ys []int64) impl.Proof {
	n := int64(len(xs)) / 4
	e := power(rootOf(n), n-1)
	x, y := fromValues(xs, 3), fromValues(ys, 3)
	p := impl.Proof{
		Start: impl.State{X: valueAt(x, 1), Y: valueAt(y, 1)},
		End:   impl.State{X: valueAt(x, e), Y: valueAt(y, e)},
		X:     xs,
		Y:     ys,
	}
	for i, z := range pointsOf(4*n, 3) {
		next := nextOf(m, impl.State{X: xs[i], Y: ys[i]})
		further := (i + 4) % len(xs)
		over := mod(mod(z-e) * power(mod(power(z, n)-1), prime-2))
		p.QX = append(p.QX, mod(mod(xs[further]-next.X)*over))
		p.QY = append(p.QY, mod(mod(ys[further]-next.Y)*over))
	}
	return p
}

func TestAProofThatIsCompletedIsTheHonestOne(t *testing.T) {
	forProofs(t, func(m impl.Machine, n int64, p impl.Proof, what string) {
		if !sameProof(completed(m, p.X, p.Y), p) {
			t.Errorf("%s: completed to another one", what)
		}
	})
}

func TestRunsWithAWrongStateAreRefused(t *testing.T) {
	forProofs(t, func(m impl.Machine, n int64, p impl.Proof, what string) {
		for place := range n {
			for _, change := range []impl.State{{X: 1}, {Y: 1}, {X: 5, Y: 7}} {
				states := runOf(m, p.Start, n-1)
				states[place] = impl.State{X: mod(states[place].X + change.X), Y: mod(states[place].Y + change.Y)}
				x, y := columns(states)
				forged := completed(m, valuesOf(x, 4*n, 3), valuesOf(y, 4*n, 3))
				wantJudged(t, fmt.Sprint(what, ": state ", place, " changed by ", change), m, forged, n)
			}
		}
	})
}

// TestOneQuotientThatIsLong: all is as it should be in one of the columns, and the other one's run is none.
func TestOneQuotientThatIsLong(t *testing.T) {
	m := impl.Machine{X: impl.Rule{XX: 2, K: 3}, Y: impl.Rule{YY: 5, K: 7}}
	s := series(73)
	for _, n := range rowCounts {
		p := honest(t, m, impl.State{X: 1, Y: 2}, n)
		other := valuesOf(s.poly(int(n)), 4*n, 3)
		for i, forged := range []impl.Proof{completed(m, other, p.Y), completed(m, p.X, other)} {
			lists := []int{2, 3}
			if impl.Below(*listsIn(&forged)[lists[i]], 3, n) || !impl.Below(*listsIn(&forged)[lists[1-i]], 3, n) {
				t.Errorf("%d rows: the wrong quotient is long", n)
			}
			wantNumber(t, "rows", impl.RowsOf(forged), n)
			wantRefused(t, fmt.Sprint(n, " rows, column ", i), m, forged)
		}
	}
}

// onAndOff has 1 at each fourth point and else 0. It is its own square four points further on, so
// it holds for squares with a quotient of nought, while no run has its values at the rows.
func onAndOff(n int64) []int64 {
	out := make([]int64, 4*n)
	for i := int64(0); i < 4*n; i += 4 {
		out[i] = 1
	}
	return out
}

func TestValuesOfALongPolynomialWouldClaimWhatIsFalse(t *testing.T) {
	m := squares()
	for _, n := range rowCounts {
		forgeries := []impl.Proof{
			completed(m, onAndOff(n), onAndOff(n)),
			completed(m, onAndOff(n), make([]int64, 4*n)),
			completed(m, make([]int64, 4*n), onAndOff(n)),
		}
		for i, p := range forgeries {
			what := fmt.Sprint(n, " rows, forgery ", i)
			if !same(p.QX, make([]int64, 4*n)) || !same(p.QY, make([]int64, 4*n)) {
				t.Errorf("%s: the quotients are not nought", what)
			}
			if runOf(m, p.Start, n-1)[n-1] == p.End {
				t.Errorf("%s: it claims what is true", what)
			}
			wantNumber(t, what, impl.RowsOf(p), n)
			wantRefused(t, what, m, p)
		}
	}
}

func TestATrueClaimWithALongPolynomial(t *testing.T) {
	// Of a machine of noughts any quotient times what is 0 at all rows but the last may stand, a row
	// further on: at the rows it is that of a run, but longer.
	s := series(74)
	for _, n := range rowCounts {
		g := rootOf(n)
		bulk := []int64{1}
		for i := range n - 1 {
			bulk = productOf(bulk, []int64{mod(-power(g, i)), 1})
		}
		for _, many := range []int64{2, n} {
			long := valuesOf(turned(productOf(bulk, s.poly(int(many))), power(g, n-1)), 4*n, 3)
			nought := make([]int64, 4*n)
			for i, p := range []impl.Proof{completed(impl.Machine{}, long, nought), completed(impl.Machine{}, nought, long)} {
				what := fmt.Sprint(n, " rows, quotient of ", many, ", column ", i)
				if !impl.Below(p.QX, 3, n) || !impl.Below(p.QY, 3, n) || p.End != (impl.State{}) || impl.RowsOf(p) != n {
					t.Errorf("%s: it has another flaw", what)
				}
				wantRefused(t, what, impl.Machine{}, p)
			}
		}
	}
}

func TestListsThatAreNotBelow(t *testing.T) {
	forProofs(t, func(m impl.Machine, n int64, p impl.Proof, what string) {
		s := series(75)
		for k := n; k < 4*n; k++ {
			more := append(make([]int64, k), 1+s.element()%(prime-1))
			for i := range 4 {
				forged := copyOf(p)
				list := listsIn(&forged)[i]
				*list = valuesOf(sumOf(fromValues(*list, 3), more), 4*n, 3)
				wantRefused(t, fmt.Sprint(what, ": list ", i, " of ", k+1, " coefficients"), m, forged)
				if i < 2 {
					wantRefused(t, fmt.Sprint(what, ": list ", i, " of ", k+1, " coefficients, completed"), m, completed(m, forged.X, forged.Y))
				}
			}
		}
	})
}

func TestNoRuleHoldsAroundTheLastRow(t *testing.T) {
	around := 0
	forProofs(t, func(m impl.Machine, n int64, p impl.Proof, what string) {
		if nextOf(m, p.End) == p.Start {
			around++
		}
		if !impl.Accepted(m, p) {
			t.Errorf("%s: refused", what)
		}
	})
	if around == 0 || around == 7*4*4 {
		t.Errorf("of %d proofs the first row comes next to the last one", around)
	}
	// This one goes around in 4 steps: where it begins again, and where it does not.
	m := impl.Machine{X: impl.Rule{Y: 1}, Y: impl.Rule{X: prime - 1}}
	for _, n := range rowCounts {
		p, ok := impl.Proved(m, impl.State{X: 3, Y: 5}, n)
		if !ok || !impl.Accepted(m, p) {
			t.Errorf("%d rows of a run that goes around: refused", n)
		}
	}
}

func TestAnyOtherRowHasToKeepTheRules(t *testing.T) {
	forProofs(t, func(m impl.Machine, n int64, p impl.Proof, what string) {
		for free := range n - 1 {
			// The run begins behind the free row, goes around the last one, and ends at the free row.
			run := runOf(m, p.Start, n-1)
			var states []impl.State
			for i := range n {
				states = append(states, run[(i+n-free-1)%n])
			}
			forged, ok := provedWith(m, states, free)
			if !ok || !impl.Below(forged.QX, 3, n) || !impl.Below(forged.QY, 3, n) {
				t.Fatalf("%s: no quotients when row %d is free", what, free)
			}
			wantJudged(t, fmt.Sprint(what, ": row ", free, " is free"), m, forged, n)
			wantJudged(t, fmt.Sprint(what, ": row ", free, " is broken"), m, completed(m, forged.X, forged.Y), n)
		}
	})
}

func TestAProofOfOtherRows(t *testing.T) {
	for _, n := range rowCounts[1:] {
		long, short := honest(t, fib(), impl.State{X: 1, Y: 1}, n), honest(t, fib(), impl.State{X: 1, Y: 1}, n/2)
		forged := long
		forged.End = short.End
		wantRefused(t, "the End of half the rows", fib(), forged)
		forged = short
		forged.End = long.End
		wantRefused(t, "the End of twice the rows", fib(), forged)
		// The same polynomials at fewer points, and at more.
		fewer, more := long, short
		for i, l := range listsIn(&fewer) {
			*l = valuesOf(fromValues(*l, 3), 2*n, 3)
			list := listsIn(&more)[i]
			*list = valuesOf(fromValues(*list, 3), 4*n, 3)
		}
		wantJudged(t, fmt.Sprint(n, " rows at the points of half as many"), fib(), fewer, n/2)
		wantJudged(t, fmt.Sprint(n/2, " rows at the points of twice as many"), fib(), more, n)
	}
}
