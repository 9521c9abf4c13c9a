package tests

import (
	"fmt"
	"math"
	"slices"
	"testing"

	"loop.example/g00319/impl"
)

// rightSteps and noSteps are the edges of how many Steps a claim may have.
var rightSteps = []int64{1, 2, 3, 7, 500, impl.MaxSteps - 1, impl.MaxSteps}

var noSteps = []int64{0, -1, -2, -impl.MaxSteps, impl.MaxSteps + 1, impl.MaxSteps + 2, 1 << 32, math.MinInt64, math.MinInt64 + 1, math.MaxInt64, math.MaxInt64 - 1}

var noParts = []int64{0, -1, -8, impl.MaxParts + 1, impl.MaxParts + 2, 16, 1 << 32, 1 << 62, math.MinInt64, math.MaxInt64}

func (s *series) state() impl.State { return impl.State{X: s.element(), Y: s.element()} }

// claimRight is reckoned without the program.
func claimRight(c impl.Claim) bool {
	for _, a := range []int64{c.Start.X, c.Start.Y, c.End.X, c.End.Y} {
		if a < 0 || a >= prime {
			return false
		}
	}
	return c.Steps >= 1 && c.Steps <= 1000
}

// wrongClaims are c with one thing in it that is not right.
func wrongClaims(c impl.Claim) []impl.Claim {
	var out []impl.Claim
	for _, steps := range noSteps {
		wrong := c
		wrong.Steps = steps
		out = append(out, wrong)
	}
	beside := []impl.State{{X: c.Start.X + prime, Y: c.Start.Y}, {X: c.End.X, Y: c.End.Y - prime}}
	for _, s := range append(noStates(), beside...) {
		start, end := c, c
		start.Start, end.End = s, s
		out = append(out, start, end)
	}
	return out
}

// claimsOf are neighbours, one for each number of steps; what they claim is not asked.
func claimsOf(s *series, steps []int64) []impl.Claim {
	var out []impl.Claim
	at := s.state()
	for _, n := range steps {
		c := impl.Claim{Start: at, End: s.state(), Steps: n}
		out = append(out, c)
		at = c.End
	}
	return out
}

// oneByOne joins without the program: the first with the second, these with the third and so on.
func oneByOne(l []impl.Claim) (impl.Claim, bool) {
	if len(l) < 1 || len(l) > 40 || !claimRight(l[0]) {
		return impl.Claim{}, false
	}
	sum := l[0]
	for _, c := range l[1:] {
		if !claimRight(c) || sum.End != c.Start || sum.Steps+c.Steps > 1000 {
			return impl.Claim{}, false
		}
		sum = impl.Claim{Start: sum.Start, End: c.End, Steps: sum.Steps + c.Steps}
	}
	return sum, true
}

// oneByOneJoined is the same with the program's own Joined.
func oneByOneJoined(l []impl.Claim) (impl.Claim, bool) {
	sum, ok := l[0], true
	for _, c := range l[1:] {
		if sum, ok = impl.Joined(sum, c); !ok {
			return impl.Claim{}, false
		}
	}
	return sum, ok
}

func wantNoClaim(t *testing.T, what string, c impl.Claim, ok bool) {
	t.Helper()
	if ok || c != (impl.Claim{}) {
		t.Errorf("%s: %v %v, wanted none", what, c, ok)
	}
}

// wantJoined holds the tree against the same one by one, and says whether there is a claim.
func wantJoined(t *testing.T, what string, l []impl.Claim) bool {
	t.Helper()
	want, wantOk := oneByOne(l)
	got, ok := impl.JoinedAll(l)
	if got != want || ok != wantOk {
		t.Errorf("%s: %v %v, wanted %v %v", what, got, ok, want, wantOk)
	}
	if len(l) > 1 && len(l) <= impl.MaxClaims {
		if joined, also := oneByOneJoined(l); joined != want || also != wantOk {
			t.Errorf("%s: %v %v one by one, wanted %v %v", what, joined, also, want, wantOk)
		}
	}
	return wantOk
}

func TestLimitsOfClaims(t *testing.T) {
	wantNumber(t, "MaxClaims", impl.MaxClaims, 40)
	wantNumber(t, "MaxParts", impl.MaxParts, 8)
}

func TestTheClaimOfAProof(t *testing.T) {
	forProofs(t, func(m impl.Machine, n int64, p impl.Proof, what string) {
		c, ok := impl.ClaimOf(p)
		if want := (impl.Claim{Start: p.Start, End: runOf(m, p.Start, n-1)[n-1], Steps: n - 1}); !ok || c != want {
			t.Errorf("%s: %v %v, wanted %v", what, c, ok, want)
		}
		if !impl.Holds(m, c) {
			t.Errorf("%s: %v does not hold", what, c)
		}
	})
}

func TestTheClaimOfAProofThatIsNotAccepted(t *testing.T) {
	s := series(81)
	for _, n := range rowCounts {
		for range 20 {
			p := impl.Proof{Start: s.state(), End: s.state()}
			for _, l := range listsIn(&p) {
				*l = s.list(int(4 * n))
			}
			c, ok := impl.ClaimOf(p)
			if want := (impl.Claim{Start: p.Start, End: p.End, Steps: n - 1}); !ok || c != want {
				t.Errorf("%d rows: %v %v, wanted %v", n, c, ok, want)
			}
			wantRefused(t, "any values", fib(), p)
		}
	}
}

func TestNoClaimOfAProofWithoutRows(t *testing.T) {
	none := func(what string, p impl.Proof) {
		t.Helper()
		c, ok := impl.ClaimOf(p)
		wantNoClaim(t, what, c, ok)
	}
	none("no proof", impl.Proof{})
	none("states alone", impl.Proof{Start: impl.State{X: 1, Y: 1}, End: impl.State{X: 1, Y: 2}})
	for _, n := range rowCounts {
		p := honest(t, fib(), impl.State{X: 1, Y: 1}, n)
		for _, s := range noStates() {
			wrong := p
			wrong.Start = s
			none(fmt.Sprint("Start ", s), wrong)
			wrong = p
			wrong.End = s
			none(fmt.Sprint("End ", s), wrong)
		}
		for i := range 4 {
			for _, a := range noElements {
				wrong := copyOf(p)
				(*listsIn(&wrong)[i])[n] = a
				none(fmt.Sprint(a, " in list ", i), wrong)
			}
			for _, length := range []int64{0, 1, 4*n - 1, 4*n + 1, 2 * n, 8 * n} {
				wrong := p
				*listsIn(&wrong)[i] = make([]int64, length)
				none(fmt.Sprint(length, " values in list ", i), wrong)
			}
		}
	}
	for _, length := range []int{1, 4, 7, 9, 12, 24, 63, 65, 128} {
		l := make([]int64, length)
		none(fmt.Sprint(length, " values in all lists"), impl.Proof{X: l, Y: l, QX: l, QY: l})
	}
}

func TestWhatHolds(t *testing.T) {
	forRuns(func(m impl.Machine, s impl.State, what string) {
		run := runOf(m, s, impl.MaxSteps)
		for _, n := range rightSteps {
			c := impl.Claim{Start: s, End: run[n], Steps: n}
			if !impl.Holds(m, c) {
				t.Errorf("%s: %v does not hold", what, c)
			}
			for _, end := range otherStates(c.End) {
				wrong := c
				wrong.End = end
				if impl.Holds(m, wrong) {
					t.Errorf("%s: %v holds", what, wrong)
				}
			}
			for _, other := range rightSteps {
				changed := impl.Claim{Start: s, End: run[n], Steps: other}
				if impl.Holds(m, changed) != (run[n] == run[other]) {
					t.Errorf("%s: of %v the contrary is said", what, changed)
				}
			}
		}
	})
}

func TestWhatDoesNotHold(t *testing.T) {
	// The machines stand still, so that nothing but what is not right can be the reason.
	at := impl.State{X: 3, Y: 5}
	c := impl.Claim{Start: at, End: at, Steps: 1}
	if !impl.Holds(still(), c) || !impl.Holds(impl.Machine{}, impl.Claim{Steps: impl.MaxSteps}) {
		t.Error("what holds is said not to")
	}
	for _, wrong := range append(wrongClaims(c), impl.Claim{}, impl.Claim{Start: at, End: at}) {
		if impl.Holds(still(), wrong) || impl.Holds(impl.Machine{}, wrong) {
			t.Errorf("%v holds", wrong)
		}
	}
	for _, wrong := range wrongClaims(impl.Claim{Steps: impl.MaxSteps}) {
		if impl.Holds(still(), wrong) || impl.Holds(impl.Machine{}, wrong) {
			t.Errorf("%v holds", wrong)
		}
	}
	for _, m := range noMachines() {
		if impl.Holds(m, impl.Claim{Steps: 1}) || impl.Holds(m, c) || impl.Holds(m, impl.Claim{}) {
			t.Errorf("machine %v: a claim holds", m)
		}
	}
	for i := range 12 {
		// What is the same modulo Prime is not the same machine.
		for _, turns := range []int64{-prime, prime} {
			m := still()
			*numbersIn(&m)[i] += turns
			if impl.Holds(m, c) {
				t.Errorf("machine %v: a claim holds", m)
			}
		}
	}
}

func TestTwoJoined(t *testing.T) {
	s := series(82)
	for _, a := range rightSteps {
		for _, b := range rightSteps {
			l := claimsOf(&s, []int64{a, b})
			c, ok := impl.Joined(l[0], l[1])
			if a+b > impl.MaxSteps {
				wantNoClaim(t, fmt.Sprint(a, " and ", b, " steps"), c, ok)
			} else if want := (impl.Claim{Start: l[0].Start, End: l[1].End, Steps: a + b}); !ok || c != want {
				t.Errorf("%v joined: %v %v, wanted %v", l, c, ok, want)
			}
		}
	}
	for a := int64(1); a <= impl.MaxSteps; a++ {
		for _, sum := range []int64{impl.MaxSteps, impl.MaxSteps + 1} {
			if b := sum - a; b >= 1 && b <= impl.MaxSteps {
				l := claimsOf(&s, []int64{a, b})
				if c, ok := impl.Joined(l[0], l[1]); ok != (sum == impl.MaxSteps) || ok && c.Steps != impl.MaxSteps || !ok && c != (impl.Claim{}) {
					t.Errorf("%d and %d steps: %v %v", a, b, c, ok)
				}
			}
		}
	}
}

func TestAClaimJoinedWithItself(t *testing.T) {
	for _, at := range someStates() {
		c := impl.Claim{Start: at, End: at, Steps: impl.MaxSteps / 2}
		if d, ok := impl.Joined(c, c); !ok || d != (impl.Claim{Start: at, End: at, Steps: impl.MaxSteps}) {
			t.Errorf("%v with itself: %v %v", c, d, ok)
		}
		c.End.Y = mod(at.Y + 1)
		d, ok := impl.Joined(c, c)
		wantNoClaim(t, "one that leads elsewhere, with itself", d, ok)
	}
}

func TestTwoThatAreNotJoined(t *testing.T) {
	s := series(83)
	none := func(what string, a impl.Claim, b impl.Claim) {
		t.Helper()
		c, ok := impl.Joined(a, b)
		wantNoClaim(t, fmt.Sprint(what, ": ", a, " and ", b), c, ok)
	}
	l := claimsOf(&s, []int64{3, 4})
	none("the other way around", l[1], l[0])
	for _, other := range otherStates(l[0].End) {
		none("another End", impl.Claim{Start: l[0].Start, End: other, Steps: 3}, l[1])
		none("another Start", l[0], impl.Claim{Start: other, End: l[1].End, Steps: 4})
	}
	for i := range 2 {
		for _, wrong := range wrongClaims(l[i]) {
			pair := slices.Clone(l)
			pair[i] = wrong
			none("one is not right", pair[0], pair[1])
		}
	}
	for _, wrong := range noStates() {
		// End and Start are the same here.
		none("both are not right", impl.Claim{Start: l[0].Start, End: wrong, Steps: 3}, impl.Claim{Start: wrong, End: l[1].End, Steps: 4})
	}
	for _, a := range noSteps {
		for _, b := range append(noSteps, rightSteps...) {
			first, second := l[0], l[1]
			first.Steps, second.Steps = a, b
			none("no steps ahead", first, second)
			first.Steps, second.Steps = b, a
			none("no steps behind", first, second)
		}
	}
	none("two without anything", impl.Claim{}, impl.Claim{})
}

// TestTrueClaimsJoinedAreTrue: and what is joined of a true one and a false one is false where
// the second leads elsewhere than its run.
func TestTrueClaimsJoinedAreTrue(t *testing.T) {
	forRuns(func(m impl.Machine, s impl.State, what string) {
		run := runOf(m, s, impl.MaxSteps)
		for _, a := range []int64{1, 3, 500, impl.MaxSteps - 1} {
			for _, b := range []int64{1, 7, 500} {
				if a+b > impl.MaxSteps {
					continue
				}
				first := impl.Claim{Start: s, End: run[a], Steps: a}
				second := impl.Claim{Start: run[a], End: run[a+b], Steps: b}
				c, ok := impl.Joined(first, second)
				if !ok || c != (impl.Claim{Start: s, End: run[a+b], Steps: a + b}) || !impl.Holds(m, c) {
					t.Errorf("%s: %v and %v are %v %v", what, first, second, c, ok)
				}
				second.End.X = mod(second.End.X + 1)
				if c, ok := impl.Joined(first, second); !ok || impl.Holds(m, c) {
					t.Errorf("%s: %v and %v are %v %v", what, first, second, c, ok)
				}
			}
		}
	})
}

func TestOneClaimAlone(t *testing.T) {
	s := series(84)
	for _, steps := range rightSteps {
		l := claimsOf(&s, []int64{steps})
		if c, ok := impl.JoinedAll(l); !ok || c != l[0] {
			t.Errorf("%v alone: %v %v", l, c, ok)
		}
		for _, wrong := range wrongClaims(l[0]) {
			c, ok := impl.JoinedAll([]impl.Claim{wrong})
			wantNoClaim(t, fmt.Sprint(wrong, " alone"), c, ok)
		}
	}
}

func TestNoClaimsAndTooMany(t *testing.T) {
	s := series(85)
	for _, n := range []int{0, impl.MaxClaims + 1, impl.MaxClaims + 2, 2 * impl.MaxClaims, 300} {
		c, ok := impl.JoinedAll(claimsOf(&s, slices.Repeat([]int64{1}, n)))
		wantNoClaim(t, fmt.Sprint(n, " claims"), c, ok)
	}
	c, ok := impl.JoinedAll([]impl.Claim{})
	wantNoClaim(t, "an empty list", c, ok)
}

func TestATreeIsTheSameOneByOne(t *testing.T) {
	s := series(86)
	for n := 1; n <= impl.MaxClaims; n++ {
		for range 5 {
			steps := make([]int64, n)
			for i := range steps {
				steps[i] = 1 + s.element()%(1000/int64(n))
			}
			if !wantJoined(t, fmt.Sprint(n, " claims"), claimsOf(&s, steps)) {
				t.Errorf("%d claims of %v steps are not joined", n, steps)
			}
		}
	}
}

func TestATreeOfJustMaxStepsAndOneMore(t *testing.T) {
	s := series(87)
	for n := 2; n <= impl.MaxClaims; n++ {
		for long := range n {
			// All have one step but for the long one, wherever it stands.
			steps := slices.Repeat([]int64{1}, n)
			steps[long] = impl.MaxSteps - int64(n) + 1
			if !wantJoined(t, fmt.Sprint(n, " claims of MaxSteps"), claimsOf(&s, steps)) {
				t.Errorf("%d claims of MaxSteps are not joined", n)
			}
			steps[long]++
			if wantJoined(t, fmt.Sprint(n, " claims of one more"), claimsOf(&s, steps)) {
				t.Errorf("%d claims of one more than MaxSteps are joined", n)
			}
		}
		if wantJoined(t, fmt.Sprint(n, " claims of MaxSteps each"), claimsOf(&s, slices.Repeat([]int64{impl.MaxSteps}, n))) {
			t.Errorf("%d claims of MaxSteps each are joined", n)
		}
	}
}

func TestATreeInWhichOneJoiningIsFalse(t *testing.T) {
	s := series(88)
	for n := 2; n <= impl.MaxClaims; n++ {
		l := claimsOf(&s, slices.Repeat([]int64{2}, n))
		for place := range n - 1 {
			for _, change := range []impl.State{{X: 1}, {Y: 1}} {
				parted := slices.Clone(l)
				at := &parted[place].End
				*at = impl.State{X: mod(at.X + change.X), Y: mod(at.Y + change.Y)}
				if wantJoined(t, fmt.Sprint(n, " claims parted behind ", place), parted) {
					t.Errorf("%d claims parted behind %d are joined", n, place)
				}
			}
			exchanged := slices.Clone(l)
			exchanged[place], exchanged[place+1] = l[place+1], l[place]
			if wantJoined(t, fmt.Sprint(n, " claims exchanged at ", place), exchanged) {
				t.Errorf("%d claims exchanged at %d are joined", n, place)
			}
		}
	}
}

func TestATreeInWhichOneIsNotRight(t *testing.T) {
	s := series(89)
	for n := 1; n <= impl.MaxClaims; n++ {
		l := claimsOf(&s, slices.Repeat([]int64{2}, n))
		for place := range n {
			for _, steps := range []int64{0, -1, impl.MaxSteps + 1, math.MinInt64, math.MaxInt64} {
				wrong := slices.Clone(l)
				wrong[place].Steps = steps
				if wantJoined(t, fmt.Sprint(n, " claims with ", steps, " steps at ", place), wrong) {
					t.Errorf("%d claims with %d steps at %d are joined", n, steps, place)
				}
			}
			for _, state := range []impl.State{{X: -1}, {Y: prime}, {X: math.MaxInt64, Y: math.MinInt64}} {
				// The neighbours have the same state that is none, so that they meet.
				wrong := slices.Clone(l)
				wrong[place].End = state
				if place+1 < n {
					wrong[place+1].Start = state
				}
				if wantJoined(t, fmt.Sprint(n, " claims, ", state, " behind ", place), wrong) {
					t.Errorf("%d claims with %v behind %d are joined", n, state, place)
				}
			}
			nothing := slices.Clone(l)
			nothing[place] = impl.Claim{}
			wantJoined(t, fmt.Sprint(n, " claims, nothing at ", place), nothing)
		}
		wrong := slices.Clone(l)
		wrong[0].Start.X = -1
		if wantJoined(t, fmt.Sprint(n, " claims from a state that is none"), wrong) {
			t.Errorf("%d claims from a state that is none are joined", n)
		}
	}
}

// TestStepsThatWouldMakeUpForEachOther: the sum is as it should be, but one has none or fewer.
func TestStepsThatWouldMakeUpForEachOther(t *testing.T) {
	s := series(90)
	for n := 2; n <= impl.MaxClaims; n++ {
		for place := range n {
			steps := slices.Repeat([]int64{3}, n)
			steps[place], steps[(place+1)%n] = -2, 8
			if wantJoined(t, fmt.Sprint(n, " claims, one goes back at ", place), claimsOf(&s, steps)) {
				t.Errorf("%d claims of which one goes back are joined", n)
			}
			steps[place], steps[(place+1)%n] = 0, 6
			if wantJoined(t, fmt.Sprint(n, " claims, one stands at ", place), claimsOf(&s, steps)) {
				t.Errorf("%d claims of which one stands are joined", n)
			}
		}
	}
}

func TestThePiecesOfARunJoinedAreTheRun(t *testing.T) {
	s := series(91)
	forRuns(func(m impl.Machine, start impl.State, what string) {
		for _, n := range []int64{1, 2, 3, 5, 8, 39, impl.MaxClaims} {
			var l []impl.Claim
			at, whole := start, int64(0)
			for range n {
				steps := 1 + s.element()%25
				end := runOf(m, at, steps)[steps]
				l = append(l, impl.Claim{Start: at, End: end, Steps: steps})
				at, whole = end, whole+steps
			}
			c, ok := impl.JoinedAll(l)
			if !ok || c != (impl.Claim{Start: start, End: at, Steps: whole}) || !impl.Holds(m, c) {
				t.Errorf("%s: %d pieces are %v %v", what, n, c, ok)
			}
		}
	})
}

func TestCutOfIsTheRunInPieces(t *testing.T) {
	forRuns(func(m impl.Machine, s impl.State, what string) {
		for _, rows := range rowCounts {
			run := runOf(m, s, impl.MaxParts*(rows-1))
			for many := int64(1); many <= impl.MaxParts; many++ {
				var want []impl.Claim
				for i := range many {
					want = append(want, impl.Claim{Start: run[i*(rows-1)], End: run[(i+1)*(rows-1)], Steps: rows - 1})
				}
				l, ok := impl.CutOf(m, s, rows, many)
				if !ok || !slices.Equal(l, want) {
					t.Errorf("%s: %d times %d rows: %v %v, wanted %v", what, many, rows, l, ok, want)
				}
				c, ok := impl.JoinedAll(l)
				if !ok || c != (impl.Claim{Start: s, End: run[many*(rows-1)], Steps: many * (rows - 1)}) || !impl.Holds(m, c) {
					t.Errorf("%s: %d times %d rows joined: %v %v", what, many, rows, c, ok)
				}
			}
		}
	})
}

func TestEachPieceIsTheClaimOfItsProof(t *testing.T) {
	for _, m := range someMachines()[:7] {
		for _, rows := range rowCounts {
			l, ok := impl.CutOf(m, impl.State{X: 2, Y: 3}, rows, impl.MaxParts)
			if !ok || len(l) != impl.MaxParts {
				t.Fatalf("machine %v, %d rows: %v %v", m, rows, l, ok)
			}
			for i, c := range l {
				p, _ := impl.Proved(m, c.Start, rows)
				if d, ok := impl.ClaimOf(p); !ok || d != c || !impl.Holds(m, c) {
					t.Errorf("machine %v, %d rows, piece %d: %v, proved is %v %v", m, rows, i, c, d, ok)
				}
			}
		}
	}
}

func TestCutOfRefuses(t *testing.T) {
	one := impl.State{X: 1, Y: 1}
	none := func(what string, m impl.Machine, s impl.State, rows int64, many int64) {
		t.Helper()
		if l, ok := impl.CutOf(m, s, rows, many); ok || len(l) != 0 {
			t.Errorf("%s: %v %v", what, l, ok)
		}
	}
	for _, rows := range noRowCounts() {
		for _, many := range []int64{1, 2, impl.MaxParts, 0, impl.MaxParts + 1, -1, math.MaxInt64} {
			none(fmt.Sprint(rows, " rows"), fib(), one, rows, many)
			none(fmt.Sprint(rows, " rows of noughts"), impl.Machine{}, impl.State{}, rows, many)
		}
	}
	for _, rows := range rowCounts {
		for _, many := range noParts {
			none(fmt.Sprint(many, " runs"), fib(), one, rows, many)
			none(fmt.Sprint(many, " runs of noughts"), impl.Machine{}, impl.State{}, rows, many)
		}
		for _, many := range []int64{1, impl.MaxParts} {
			for _, m := range noMachines() {
				none(fmt.Sprint("machine ", m), m, one, rows, many)
				none(fmt.Sprint("machine ", m, " from nought"), m, impl.State{}, rows, many)
			}
			for _, s := range noStates() {
				none(fmt.Sprint("from ", s), fib(), s, rows, many)
				none(fmt.Sprint("noughts from ", s), impl.Machine{}, s, rows, many)
			}
		}
	}
}

func TestClaimsThatAreKnown(t *testing.T) {
	one := impl.State{X: 1, Y: 1}
	l, ok := impl.CutOf(fib(), one, 2, 3)
	want := []impl.Claim{
		{Start: one, End: impl.State{X: 1, Y: 2}, Steps: 1},
		{Start: impl.State{X: 1, Y: 2}, End: impl.State{X: 2, Y: 3}, Steps: 1},
		{Start: impl.State{X: 2, Y: 3}, End: impl.State{X: 3, Y: 5}, Steps: 1},
	}
	if !ok || !slices.Equal(l, want) {
		t.Errorf("three runs of one step: %v %v", l, ok)
	}
	if c, ok := impl.JoinedAll(l); !ok || c != (impl.Claim{Start: one, End: impl.State{X: 3, Y: 5}, Steps: 3}) {
		t.Errorf("three joined: %v %v", c, ok)
	}
	if c, ok := impl.Joined(want[0], want[1]); !ok || c != (impl.Claim{Start: one, End: impl.State{X: 2, Y: 3}, Steps: 2}) {
		t.Errorf("two joined: %v %v", c, ok)
	}
	// From 1, 1 the run has come to the twelfth and the thirteenth of these numbers after 11 steps.
	if !impl.Holds(fib(), impl.Claim{Start: one, End: impl.State{X: 144, Y: 233}, Steps: 11}) {
		t.Error("eleven steps")
	}
}
