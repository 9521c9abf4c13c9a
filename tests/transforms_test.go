package tests

import (
	"fmt"
	"math"
	"testing"

	"loop.example/g00319/impl"
)

// pointCounts are all n of which there are points.
var pointCounts = []int64{1, 2, 4, 8, 16, 32, 64}

// noPointCounts are n of which there are none.
var noPointCounts = []int64{0, -1, -2, -4, -64, 3, 5, 6, 7, 12, 24, 48, 63, 65, 96, 127, 128, 256, 65536, 1 << 32, 1<<32 + 1, math.MinInt64, math.MaxInt64}

// someShifts have the edges among them.
var someShifts = []int64{1, prime - 1, 2, 3, 5, 256, 32768, 32769, 65535, 40503}

// noShifts are those with which there are no points.
func noShifts() []int64 { return append([]int64{0}, noElements...) }

// pointsOf reckons without the program: 3 is squared until what is left of its order is n.
func pointsOf(n int64, shift int64) []int64 {
	root := int64(3)
	for order := int64(prime - 1); order > n; order /= 2 {
		root = mod(root * root)
	}
	out := []int64{shift}
	for int64(len(out)) < n {
		out = append(out, mod(out[len(out)-1]*root))
	}
	return out
}

// valuesOf reckons without the program: each value for itself.
func valuesOf(f []int64, n int64, shift int64) []int64 {
	var out []int64
	for _, x := range pointsOf(n, shift) {
		out = append(out, valueAt(f, x))
	}
	return out
}

// forPlaces calls f with all counts of points and some shifts.
func forPlaces(f func(n int64, shift int64, what string)) {
	for _, n := range pointCounts {
		for _, shift := range someShifts {
			f(n, shift, fmt.Sprint(n, " points with the shift ", shift))
		}
	}
}

func TestPointsAreTheShiftedRoots(t *testing.T) {
	forPlaces(func(n int64, shift int64, what string) {
		points := impl.Points(n, shift)
		wantList(t, what, points, pointsOf(n, shift))
		for i, x := range points {
			wantNumber(t, what, x, impl.Mul(shift, impl.Pow(impl.RootOf(n), int64(i))))
			wantNumber(t, what+", to the n", impl.Pow(x, n), impl.Pow(shift, n))
			for _, y := range points[:i] {
				if x == y {
					t.Errorf("%s: %d twice", what, x)
				}
			}
		}
	})
}

func TestPointsThatAreKnown(t *testing.T) {
	wantList(t, "one", impl.Points(1, 1), []int64{1})
	wantList(t, "one, shifted", impl.Points(1, 7), []int64{7})
	wantList(t, "one, the last element", impl.Points(1, prime-1), []int64{prime - 1})
	wantList(t, "two", impl.Points(2, 1), []int64{1, prime - 1})
	wantList(t, "two, the other way", impl.Points(2, prime-1), []int64{prime - 1, 1})
	wantList(t, "four", impl.Points(4, 1), []int64{1, 65281, prime - 1, 256})
}

func TestThereAreNoPoints(t *testing.T) {
	s := series(21)
	for _, n := range noPointCounts {
		for _, shift := range append(noShifts(), someShifts...) {
			what := fmt.Sprint(n, " points with the shift ", shift)
			wantList(t, what, impl.Points(n, shift), nil)
			wantNoEvals(t, what, s.poly(3), n, shift)
			wantNoEvals(t, what+", nought", nil, n, shift)
		}
	}
	for _, n := range pointCounts {
		for _, shift := range noShifts() {
			what := fmt.Sprint(n, " points with the shift ", shift)
			wantList(t, what, impl.Points(n, shift), nil)
			wantNoEvals(t, what, s.poly(3), n, shift)
			wantNoEvals(t, what+", nought", nil, n, shift)
			wantNoFromEvals(t, what, s.list(int(n)), shift)
			wantNoFromEvals(t, what+", all nought", make([]int64, n), shift)
		}
	}
}

func wantNoEvals(t *testing.T, what string, f []int64, n int64, shift int64) {
	t.Helper()
	if l, ok := impl.Evals(f, n, shift); ok || len(l) != 0 {
		t.Errorf("values at %s: %v %v", what, l, ok)
	}
}

func wantNoFromEvals(t *testing.T, what string, l []int64, shift int64) {
	t.Helper()
	if f, ok := impl.FromEvals(l, shift); ok || len(f) != 0 {
		t.Errorf("from values at %s: %v %v", what, f, ok)
	}
}

func TestEvalsAreTheValues(t *testing.T) {
	forPlaces(func(n int64, shift int64, what string) {
		// Of somePolys some have fewer coefficients than there are points, some as many, some more.
		s := series(22)
		for _, f := range append(somePolys(), s.poly(int(n)), s.poly(int(n)+1), s.poly(int(2*n))) {
			l, ok := impl.Evals(f, n, shift)
			if !ok {
				t.Errorf("%s: %d coefficients are refused", what, len(f))
			}
			wantList(t, fmt.Sprint(len(f), " coefficients at ", what), l, valuesOf(f, n, shift))
		}
	})
}

func TestEvalsOfEachLength(t *testing.T) {
	s := series(23)
	for m := 0; m <= impl.MaxLen; m++ {
		f := s.poly(m)
		for _, n := range pointCounts {
			l, ok := impl.Evals(f, n, 3)
			if !ok || !same(l, valuesOf(f, n, 3)) {
				t.Errorf("%d coefficients at %d points: %v %v", m, n, l, ok)
			}
		}
	}
}

func TestEvalsOfNoughtAreNought(t *testing.T) {
	forPlaces(func(n int64, shift int64, what string) {
		for _, nought := range [][]int64{nil, {}} {
			l, ok := impl.Evals(nought, n, shift)
			if !ok || !same(l, make([]int64, n)) {
				t.Errorf("nought at %s: %v %v", what, l, ok)
			}
		}
	})
}

func TestEvalsRefuseWhatIsNoPolynomial(t *testing.T) {
	for _, f := range noPolys() {
		for _, n := range pointCounts {
			for _, shift := range []int64{1, 3, prime - 1, 0, prime} {
				wantNoEvals(t, fmt.Sprint(n, " points of ", f), f, n, shift)
			}
		}
	}
}

func TestValuesLeadBackToTheirPolynomial(t *testing.T) {
	forPlaces(func(n int64, shift int64, what string) {
		s := series(24)
		for m := 0; m <= int(n); m++ {
			f := s.poly(m)
			got, ok := impl.FromEvals(valuesOf(f, n, shift), shift)
			if !ok || !same(got, f) {
				t.Errorf("%d coefficients from %s: %v %v", m, what, got, ok)
			}
			l, _ := impl.Evals(f, n, shift)
			if got, ok := impl.FromEvals(l, shift); !ok || !same(got, f) {
				t.Errorf("%d coefficients there and back at %s: %v %v", m, what, got, ok)
			}
		}
	})
}

func TestFromValuesToAPolynomialThatHasThem(t *testing.T) {
	forPlaces(func(n int64, shift int64, what string) {
		s := series(25)
		for range 4 {
			l := s.list(int(n))
			f, ok := impl.FromEvals(l, shift)
			if !ok || int64(len(f)) > n {
				t.Errorf("%s: %d coefficients, %v", what, len(f), ok)
			}
			wantPoly(t, what, f)
			wantList(t, what, valuesOf(f, n, shift), l)
			back, ok := impl.Evals(f, n, shift)
			if !ok || !same(back, l) {
				t.Errorf("%s: back to %v from %v", what, back, l)
			}
			through, ok := impl.Through(impl.Points(n, shift), l)
			if !ok || !same(through, f) {
				t.Errorf("%s: %v, but %v through the points", what, f, through)
			}
		}
	})
}

func TestEdgeValuesHaveTheirPolynomial(t *testing.T) {
	forPlaces(func(n int64, shift int64, what string) {
		for _, a := range edgeElements {
			for i := range n {
				l := make([]int64, n)
				l[i] = a
				f, ok := impl.FromEvals(l, shift)
				if !ok || !same(valuesOf(f, n, shift), l) {
					t.Errorf("%d at place %d of %s: %v %v", a, i, what, f, ok)
				}
				wantPoly(t, what, f)
			}
		}
	})
}

func TestFromValuesThatAreAllTheSame(t *testing.T) {
	forPlaces(func(n int64, shift int64, what string) {
		for _, a := range edgeElements {
			var l, want []int64
			for range n {
				l = append(l, a)
			}
			if a != 0 {
				want = []int64{a}
			}
			f, ok := impl.FromEvals(l, shift)
			if !ok || !same(f, want) {
				t.Errorf("all %d at %s: %v %v", a, what, f, ok)
			}
		}
	})
}

func TestOnePointAlone(t *testing.T) {
	s := series(26)
	for _, shift := range append(s.list(20), someShifts...) {
		if shift == 0 {
			continue
		}
		what := fmt.Sprint("the point ", shift)
		wantList(t, what, impl.Points(1, shift), []int64{shift})
		for _, f := range somePolys() {
			l, ok := impl.Evals(f, 1, shift)
			if !ok || !same(l, []int64{valueAt(f, shift)}) {
				t.Errorf("%d coefficients at %s: %v %v", len(f), what, l, ok)
			}
		}
		if f, ok := impl.FromEvals([]int64{0}, shift); !ok || len(f) != 0 {
			t.Errorf("from 0 at %s: %v %v", what, f, ok)
		}
		if f, ok := impl.FromEvals([]int64{prime - 1}, shift); !ok || !same(f, []int64{prime - 1}) {
			t.Errorf("from the last element at %s: %v %v", what, f, ok)
		}
	}
}

func TestFromEvalsRefuses(t *testing.T) {
	s := series(27)
	for n := 0; n <= 2*impl.MaxPoints+1; n++ {
		f, ok := impl.FromEvals(s.list(n), 3)
		if right := n > 0 && impl.MaxPoints%n == 0; ok != right || !ok && len(f) != 0 {
			t.Errorf("from %d values: %v %v", n, f, ok)
		}
	}
	wantNoFromEvals(t, "no values", nil, 1)
	wantNoFromEvals(t, "far too many values", make([]int64, 65536), 1)
	for _, n := range pointCounts {
		for _, i := range []int64{0, n / 2, n - 1} {
			for _, a := range noElements {
				l := s.list(int(n))
				l[i] = a
				wantNoFromEvals(t, fmt.Sprint(a, " at place ", i, " of ", n), l, 3)
			}
		}
	}
}
