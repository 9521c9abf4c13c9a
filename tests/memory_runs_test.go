package tests

import (
	"fmt"
	"slices"
	"testing"

	"loop.example/g00319/impl"
)

// scribbleStates writes over a list of states and the room behind it.
func scribbleStates(l []impl.State) {
	for i := range l[:cap(l)] {
		l[:cap(l)][i] = impl.State{X: scribble, Y: scribble}
	}
}

func TestRunsShareNoMemory(t *testing.T) {
	forRuns(func(m impl.Machine, s impl.State, what string) {
		for _, n := range []int64{0, 1, 7, impl.MaxSteps} {
			first, _ := impl.RunOf(m, s, n)
			kept := slices.Clone(first)
			second, _ := impl.RunOf(m, s, n)
			scribbleStates(first)
			third, _ := impl.RunOf(m, s, n)
			if !slices.Equal(second, kept) || !slices.Equal(third, kept) {
				t.Errorf("%s, %d steps: another answer when the first was written over", what, n)
			}
		}
	})
}

func TestTraceOkWritesNothing(t *testing.T) {
	behind := impl.State{X: spare, Y: spare}
	forRuns(func(m impl.Machine, s impl.State, what string) {
		for _, n := range []int64{0, 1, 7, impl.MaxSteps, impl.MaxSteps + 1} {
			states := runOf(m, s, n)
			states[n/2].X += prime
			for _, l := range [][]impl.State{nil, runOf(m, s, n), states} {
				g := guardWith(l, behind)
				ok := impl.TraceOk(m, g.list())
				if impl.TraceOk(m, g.list()) != ok || g.touched() {
					t.Errorf("%s, %d steps: written into", what, n)
				}
			}
		}
	})
}

func TestTheListsOfAProofShareNoMemory(t *testing.T) {
	forRuns(func(m impl.Machine, s impl.State, what string) {
		for _, n := range rowCounts {
			first, _ := impl.Proved(m, s, n)
			kept := copyOf(first)
			second, _ := impl.Proved(m, s, n)
			if !scribbleOver([][]int64{first.X, first.Y, first.QX, first.QY}) {
				t.Fatalf("%s, %d rows: two lists share memory", what, n)
			}
			third, _ := impl.Proved(m, s, n)
			if !sameProof(second, kept) || !sameProof(third, kept) {
				t.Fatalf("%s, %d rows: another answer when the first was written over", what, n)
			}
		}
	})
}

// checkProofCalls asks of a proof what can be asked, twice, and watches its lists.
func checkProofCalls(t *testing.T, what string, m impl.Machine, p impl.Proof) {
	t.Helper()
	guards := []*guarded[int64]{guard(p.X), guard(p.Y), guard(p.QX), guard(p.QY)}
	watched := impl.Proof{Start: p.Start, End: p.End, X: guards[0].list(), Y: guards[1].list(), QX: guards[2].list(), QY: guards[3].list()}
	for range 2 {
		if impl.RowsOf(watched) != impl.RowsOf(p) || impl.Accepted(m, watched) != impl.Accepted(m, p) {
			t.Errorf("%s: another answer", what)
		}
		c, ok := impl.ClaimOf(watched)
		if d, also := impl.ClaimOf(p); c != d || ok != also {
			t.Errorf("%s: another claim", what)
		}
	}
	for i, g := range guards {
		if g.touched() {
			t.Errorf("%s: list %d is written into", what, i)
		}
	}
}

func TestWhatIsAskedOfAProofWritesNothing(t *testing.T) {
	forProofs(t, func(m impl.Machine, n int64, p impl.Proof, what string) {
		checkProofCalls(t, what, m, p)
		checkProofCalls(t, what+", another machine", impl.Machine{X: impl.Rule{K: 5}}, p)
		checkProofCalls(t, what+", no machine", impl.Machine{X: impl.Rule{K: -1}}, p)
		for i := range 4 {
			for _, other := range [][]int64{nil, {1}, make([]int64, 4*n), make([]int64, 128), slices.Repeat([]int64{-1}, int(4*n))} {
				wrong := p
				*listsIn(&wrong)[i] = other
				checkProofCalls(t, fmt.Sprint(what, ", list ", i, " changed"), m, wrong)
			}
		}
		wrong := p
		wrong.End.X = mod(p.End.X + 1)
		checkProofCalls(t, what+", another End", m, wrong)
		wrong.End.X = -1
		checkProofCalls(t, what+", no End", m, wrong)
	})
}

func TestListsOfAProofThatLieInOneMemory(t *testing.T) {
	forProofs(t, func(m impl.Machine, n int64, p impl.Proof, what string) {
		whole := slices.Concat(p.X, p.Y, p.QX, p.QY)
		was := slices.Clone(whole)
		together := impl.Proof{Start: p.Start, End: p.End, X: whole[:4*n], Y: whole[4*n : 8*n], QX: whole[8*n : 12*n], QY: whole[12*n:]}
		if impl.RowsOf(together) != n || !impl.Accepted(m, together) || !same(whole, was) {
			t.Errorf("%s: refused, or written into", what)
		}
	})
	// All four are one list: the machine of noughts stays at nought.
	for _, n := range rowCounts {
		g := guard(make([]int64, 4*n))
		p := impl.Proof{X: g.list(), Y: g.list(), QX: g.list(), QY: g.list()}
		if impl.RowsOf(p) != n || !impl.Accepted(impl.Machine{}, p) || g.touched() {
			t.Errorf("one list of %d rows: refused, or written into", n)
		}
	}
}
