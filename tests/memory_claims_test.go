package tests

import (
	"fmt"
	"slices"
	"testing"

	"loop.example/g00319/impl"
)

// checkJoinedAll asks twice, of a list with room behind it, and watches both.
func checkJoinedAll(t *testing.T, what string, l []impl.Claim) {
	t.Helper()
	none := impl.State{X: spare, Y: spare}
	g := guardWith(l, impl.Claim{Start: none, End: none, Steps: spare})
	want, wantOk := impl.JoinedAll(slices.Clone(l))
	for range 2 {
		if c, ok := impl.JoinedAll(g.list()); c != want || ok != wantOk {
			t.Errorf("%s: %v %v, wanted %v %v", what, c, ok, want, wantOk)
		}
		if g.touched() {
			t.Fatalf("%s: written into", what)
		}
	}
}

func TestJoinedAllWritesNothing(t *testing.T) {
	s := series(95)
	for n := range impl.MaxClaims + 3 {
		l := claimsOf(&s, slices.Repeat([]int64{3}, n))
		checkJoinedAll(t, fmt.Sprint(n, " claims"), l)
		for place := range n {
			wrong := slices.Clone(l)
			wrong[place].End.X = mod(wrong[place].End.X + 1)
			checkJoinedAll(t, fmt.Sprint(n, " claims parted behind ", place), wrong)
			wrong[place].Steps = 0
			checkJoinedAll(t, fmt.Sprint(n, " claims without steps at ", place), wrong)
		}
	}
}

// TestClaimsBehindTheListAreNotJoined: what stands in the spare room would fit.
func TestClaimsBehindTheListAreNotJoined(t *testing.T) {
	s := series(96)
	whole := claimsOf(&s, slices.Repeat([]int64{1}, impl.MaxClaims))
	was := slices.Clone(whole)
	for from := range whole {
		for to := from + 1; to <= len(whole); to++ {
			c, ok := impl.JoinedAll(whole[from:to])
			if want := (impl.Claim{Start: was[from].Start, End: was[to-1].End, Steps: int64(to - from)}); !ok || c != want {
				t.Errorf("claims %d to %d: %v %v, wanted %v", from, to, c, ok, want)
			}
		}
	}
	if !slices.Equal(whole, was) {
		t.Error("written into")
	}
}

// scribbleClaims writes over a list of claims and the room behind it.
func scribbleClaims(l []impl.Claim) {
	none := impl.State{X: scribble, Y: scribble}
	for i := range l[:cap(l)] {
		l[:cap(l)][i] = impl.Claim{Start: none, End: none, Steps: scribble}
	}
}

func TestPiecesShareNoMemory(t *testing.T) {
	forRuns(func(m impl.Machine, s impl.State, what string) {
		for _, rows := range rowCounts {
			for _, many := range []int64{1, 3, impl.MaxParts} {
				first, _ := impl.CutOf(m, s, rows, many)
				kept := slices.Clone(first)
				second, _ := impl.CutOf(m, s, rows, many)
				scribbleClaims(first)
				third, _ := impl.CutOf(m, s, rows, many)
				if !slices.Equal(second, kept) || !slices.Equal(third, kept) {
					t.Errorf("%s, %d times %d rows: another answer when the first was written over", what, many, rows)
				}
			}
		}
	})
}
