package tests

import (
	"fmt"
	"math"
	"testing"

	"loop.example/g00319/impl"
)

// halvesOf parts a polynomial without the program, and cuts the zeros off the ends.
func halvesOf(f []int64) ([]int64, []int64) {
	var halves [2][]int64
	for i, c := range f {
		halves[i%2] = append(halves[i%2], c)
	}
	return sumOf(halves[0], nil), sumOf(halves[1], nil)
}

// mixOf is the even half and beta times the odd one, reckoned without the program.
func mixOf(f []int64, beta int64) []int64 {
	even, odd := halvesOf(f)
	return sumOf(even, productOf([]int64{beta}, odd))
}

func wantNoFold(t *testing.T, what string, l []int64, shift int64, beta int64) {
	t.Helper()
	if out, ok := impl.Folded(l, shift, beta); ok || len(out) != 0 {
		t.Errorf("fold of %s: %v %v", what, out, ok)
	}
}

func TestHalvesAreTheCoefficientsAtEvenAndAtOddPlaces(t *testing.T) {
	s := series(31)
	lists := somePolys()
	for n := 0; n <= impl.MaxLen; n++ {
		lists = append(lists, s.poly(n))
	}
	for _, f := range lists {
		even, odd := impl.Halves(f)
		wantEven, wantOdd := halvesOf(f)
		wantList(t, "even half", even, wantEven)
		wantList(t, "odd half", odd, wantOdd)
		wantPoly(t, "even half", even)
		wantPoly(t, "odd half", odd)
		for _, x := range edgeElements {
			square := mod(x * x)
			got := impl.Add(impl.At(even, square), impl.Mul(x, impl.At(odd, square)))
			wantNumber(t, fmt.Sprint("both halves at ", x), got, valueAt(f, x))
		}
	}
}

func TestHalvesAtTheEdges(t *testing.T) {
	for _, c := range []struct{ f, even, odd []int64 }{
		{nil, nil, nil},
		{[]int64{}, nil, nil},
		{[]int64{7}, []int64{7}, nil},
		{[]int64{0, 7}, nil, []int64{7}},
		{[]int64{5, 7}, []int64{5}, []int64{7}},
		{[]int64{0, 0, 7}, []int64{0, 7}, nil},
		{[]int64{0, 0, 0, 7}, nil, []int64{0, 7}},
		{[]int64{1, 0, 0, 0, 0, 7}, []int64{1}, []int64{0, 0, 7}},
		{[]int64{0, 1, 0, 0, 7}, []int64{0, 0, 7}, []int64{1}},
	} {
		even, odd := impl.Halves(c.f)
		wantList(t, fmt.Sprint("even half of ", c.f), even, c.even)
		wantList(t, fmt.Sprint("odd half of ", c.f), odd, c.odd)
	}
}

func TestHalvesRefuseWhatIsNoPolynomial(t *testing.T) {
	for _, f := range noPolys() {
		even, odd := impl.Halves(f)
		if len(even) != 0 || len(odd) != 0 {
			t.Errorf("halves of %v: %v %v", f, even, odd)
		}
	}
}

func TestAFoldHasTheValuesOfTheHalvesAtTheSquares(t *testing.T) {
	forPlaces(func(n int64, shift int64, what string) {
		if n == 1 {
			return
		}
		s := series(32)
		squares := mod(shift * shift)
		for _, beta := range append(s.list(4), edgeElements...) {
			for _, m := range []int64{0, 1, 2, n / 2, n - 1, n} {
				f := s.poly(int(m))
				got, ok := impl.Folded(valuesOf(f, n, shift), shift, beta)
				if !ok {
					t.Fatalf("%s, beta %d: refused", what, beta)
				}
				wantList(t, fmt.Sprint(m, " coefficients, beta ", beta, ", ", what), got, valuesOf(mixOf(f, beta), n/2, squares))
			}
		}
	})
}

func TestAFoldOfAnyValues(t *testing.T) {
	forPlaces(func(n int64, shift int64, what string) {
		if n == 1 {
			return
		}
		s := series(33)
		points := pointsOf(n, shift)
		for _, beta := range append(s.list(3), 0, 1, prime-1) {
			l := s.list(int(n))
			got, ok := impl.Folded(l, shift, beta)
			if !ok || int64(len(got)) != n/2 {
				t.Fatalf("%s, beta %d: %v %v", what, beta, got, ok)
			}
			for i, a := range got {
				// Twice x times the fold, so that nothing is divided.
				here, there, x := l[i], l[int64(i)+n/2], points[i]
				want := mod(mod(x*mod(here+there)) + mod(beta*mod(here-there)))
				wantNumber(t, fmt.Sprint("fold at ", i, " of ", what), mod(2*mod(x*a)), want)
			}
		}
	})
}

func TestAFoldByNoughtIsTheEvenHalf(t *testing.T) {
	forPlaces(func(n int64, shift int64, what string) {
		if n == 1 {
			return
		}
		s := series(34)
		f := s.poly(int(n))
		even, _ := halvesOf(f)
		got, ok := impl.Folded(valuesOf(f, n, shift), shift, 0)
		if !ok || !same(got, valuesOf(even, n/2, mod(shift*shift))) {
			t.Errorf("%s: %v %v", what, got, ok)
		}
	})
}

func TestAFoldOfNoughtIsNought(t *testing.T) {
	forPlaces(func(n int64, shift int64, what string) {
		if n == 1 {
			return
		}
		for _, beta := range edgeElements {
			got, ok := impl.Folded(make([]int64, n), shift, beta)
			if !ok || !same(got, make([]int64, n/2)) {
				t.Errorf("%s, beta %d: %v %v", what, beta, got, ok)
			}
		}
	})
}

func TestFoldsAgainAndAgainLeadToOneValue(t *testing.T) {
	s := series(35)
	for _, shift := range someShifts {
		f := s.poly(impl.MaxPoints)
		l := valuesOf(f, impl.MaxPoints, shift)
		x := shift
		for len(l) > 1 {
			beta := s.element()
			next, ok := impl.Folded(l, x, beta)
			if !ok {
				t.Fatalf("a fold of %d values is refused", len(l))
			}
			f, l, x = mixOf(f, beta), next, mod(x*x)
		}
		wantList(t, "the last value", l, []int64{valueAt(f, x)})
		wantNoFold(t, "one value", l, x, 1)
	}
}

func TestFoldedRefuses(t *testing.T) {
	s := series(36)
	for n := 0; n <= 2*impl.MaxPoints+1; n++ {
		out, ok := impl.Folded(s.list(n), 3, 5)
		if right := n > 1 && impl.MaxPoints%n == 0; ok != right || !ok && len(out) != 0 {
			t.Errorf("fold of %d values: %v %v", n, out, ok)
		}
	}
	wantNoFold(t, "no values", nil, 1, 1)
	for _, n := range pointCounts {
		for _, shift := range noShifts() {
			wantNoFold(t, fmt.Sprint(n, " values with the shift ", shift), s.list(int(n)), shift, 5)
		}
		for _, a := range noElements {
			wantNoFold(t, fmt.Sprint(n, " values by ", a), s.list(int(n)), 3, a)
			wantNoFold(t, fmt.Sprint(n, " noughts by ", a), make([]int64, n), 3, a)
			for _, i := range []int64{0, n / 2, n - 1} {
				l := s.list(int(n))
				l[i] = a
				wantNoFold(t, fmt.Sprint(a, " at place ", i, " of ", n), l, 3, 5)
				wantNoFold(t, fmt.Sprint(a, " at place ", i, " of ", n, ", beta 0"), l, 3, 0)
			}
		}
	}
}

func TestOneValueIsNotFolded(t *testing.T) {
	for _, shift := range someShifts {
		for _, a := range edgeElements {
			for _, beta := range edgeElements {
				wantNoFold(t, fmt.Sprint(a, " alone"), []int64{a}, shift, beta)
			}
		}
	}
}

func TestBelowCountsTheCoefficients(t *testing.T) {
	forPlaces(func(n int64, shift int64, what string) {
		s := series(37)
		for m := int64(0); m <= n; m++ {
			l := valuesOf(s.poly(int(m)), n, shift)
			for _, most := range []int64{math.MinInt64, -1, 0, m - 1, m, m + 1, n, n + 1, impl.MaxLen, math.MaxInt64} {
				if impl.Below(l, shift, most) != (m <= most) {
					t.Errorf("%d coefficients at %s below %d: %v", m, what, most, m > most)
				}
			}
		}
	})
}

func TestNoughtIsBelowNought(t *testing.T) {
	forPlaces(func(n int64, shift int64, what string) {
		nought, one := make([]int64, n), make([]int64, n)
		one[n-1] = 1
		if !impl.Below(nought, shift, 0) || impl.Below(nought, shift, -1) || impl.Below(nought, shift, math.MinInt64) {
			t.Errorf("all nought at %s", what)
		}
		if impl.Below(one, shift, 0) || impl.Below(one, shift, n-1) || !impl.Below(one, shift, n) {
			t.Errorf("a last value of 1 at %s", what)
		}
	})
}

func TestBelowRefuses(t *testing.T) {
	s := series(38)
	for n := 0; n <= 2*impl.MaxPoints+1; n++ {
		right := n > 0 && impl.MaxPoints%n == 0
		if impl.Below(s.list(n), 3, math.MaxInt64) != right || impl.Below(make([]int64, n), 3, 0) != right {
			t.Errorf("below of %d values: %v", n, !right)
		}
	}
	for _, n := range pointCounts {
		for _, shift := range noShifts() {
			if impl.Below(make([]int64, n), shift, math.MaxInt64) {
				t.Errorf("%d values with the shift %d are below", n, shift)
			}
		}
		for _, i := range []int64{0, n / 2, n - 1} {
			for _, a := range noElements {
				l := make([]int64, n)
				l[i] = a
				if impl.Below(l, 3, math.MaxInt64) {
					t.Errorf("%d at place %d of %d is below", a, i, n)
				}
			}
		}
	}
}

// foldIsBelow says whether the fold is of a polynomial of at most that many coefficients.
func foldIsBelow(t *testing.T, l []int64, shift int64, beta int64, most int64) bool {
	t.Helper()
	out, ok := impl.Folded(l, shift, beta)
	if !ok {
		t.Fatalf("a fold of %d values by %d is refused", len(l), beta)
	}
	return impl.Below(out, mod(shift*shift), most)
}

func TestShortJustWhereTwoUnlikeFoldsAreHalfAsShort(t *testing.T) {
	forPlaces(func(n int64, shift int64, what string) {
		if n == 1 {
			return
		}
		s := series(39)
		for m := int64(0); m <= n; m++ {
			l := valuesOf(s.poly(int(m)), n, shift)
			betas := [][2]int64{{0, 1}, {1, prime - 1}, {s.element(), 0}}
			for most := int64(-1); most <= n/2; most++ {
				for _, b := range betas {
					if b[0] == b[1] {
						continue
					}
					folds := foldIsBelow(t, l, shift, b[0], most) && foldIsBelow(t, l, shift, b[1], most)
					if short := impl.Below(l, shift, 2*most); short != folds {
						t.Errorf("%d coefficients at %s: below %d is %v, the folds by %v below %d is %v", m, what, 2*most, short, b, most, folds)
					}
				}
			}
		}
	})
}

// cancelled is of n coefficients, but the fold by beta of its values has fewer than half as many.
func cancelled(s *series, n int64, beta int64) []int64 {
	f := s.poly(int(n))
	f[n-2] = mod(-beta * f[n-1])
	return f
}

func TestOneFoldAloneMayBeShort(t *testing.T) {
	forPlaces(func(n int64, shift int64, what string) {
		if n == 1 {
			return
		}
		s := series(40)
		for _, beta := range []int64{0, 1, prime - 1, 12345} {
			l := valuesOf(cancelled(&s, n, beta), n, shift)
			most := n/2 - 1
			if !foldIsBelow(t, l, shift, beta, most) {
				t.Errorf("%s: the fold by %d is not short", what, beta)
			}
			if impl.Below(l, shift, 2*most) || impl.Below(l, shift, n-1) {
				t.Errorf("%s: the values are those of a short one", what)
			}
			if foldIsBelow(t, l, shift, mod(beta+1), most) {
				t.Errorf("%s: the fold by %d is short, too", what, beta+1)
			}
		}
	})
}
