package tests

import (
	"fmt"
	"testing"

	"loop.example/g00319/impl"
)

func TestLimitsOfPolynomials(t *testing.T) {
	wantNumber(t, "MaxLen", impl.MaxLen, 128)
	wantNumber(t, "MaxPoints", impl.MaxPoints, 64)
}

func TestWhatIsAPolynomial(t *testing.T) {
	for i, f := range somePolys() {
		if !impl.PolyOk(f) {
			t.Errorf("polynomial %d: %v is none", i, f)
		}
	}
	for i, f := range noPolys() {
		if impl.PolyOk(f) {
			t.Errorf("list %d: %v is one", i, f)
		}
	}
}

func TestTrimmedCutsTheZerosAtTheEnd(t *testing.T) {
	for _, f := range somePolys() {
		for _, zeros := range []int{0, 1, 2, 50, impl.MaxLen - len(f)} {
			l := append(append([]int64{}, f...), make([]int64, zeros)...)
			if len(l) <= impl.MaxLen {
				wantList(t, fmt.Sprint("with ", zeros, " zeros"), impl.Trimmed(l), f)
			}
		}
	}
	wantList(t, "of zeros", impl.Trimmed(make([]int64, impl.MaxLen)), nil)
	wantList(t, "zeros ahead stay", impl.Trimmed([]int64{0, 0, 7, 0, 2, 0}), []int64{0, 0, 7, 0, 2})
}

func TestTrimmedRefuses(t *testing.T) {
	s := series(5)
	wantList(t, "too long", impl.Trimmed(s.poly(impl.MaxLen+1)), nil)
	wantList(t, "too long by a zero", impl.Trimmed(append(s.poly(impl.MaxLen), 0)), nil)
	wantList(t, "too long, of zeros", impl.Trimmed(make([]int64, impl.MaxLen+1)), nil)
	for _, a := range noElements {
		for _, l := range [][]int64{{a}, {1, a}, {a, 1}, {1, a, 0, 0}, {1, a, 1, 0}} {
			wantList(t, fmt.Sprint("Trimmed of ", l), impl.Trimmed(l), nil)
		}
	}
}

func TestAtIsTheSumOfPowers(t *testing.T) {
	s := series(6)
	places := append(s.list(10), edgeElements...)
	for _, f := range somePolys() {
		for _, x := range places {
			wantNumber(t, fmt.Sprint("At ", x), impl.At(f, x), valueAt(f, x))
			if len(f) < impl.MaxLen {
				l := append(append([]int64{}, f...), make([]int64, impl.MaxLen-len(f))...)
				wantNumber(t, fmt.Sprint("with zeros, at ", x), impl.At(l, x), valueAt(f, x))
			}
		}
		if len(f) > 0 {
			wantNumber(t, "at 0", impl.At(f, 0), f[0])
		}
	}
	wantNumber(t, "nought", impl.At(nil, 5), 0)
	wantNumber(t, "a zero", impl.At([]int64{0}, 5), 0)
}

func TestAtRefuses(t *testing.T) {
	s := series(7)
	wantNumber(t, "too long", impl.At(s.poly(impl.MaxLen+1), 2), -1)
	wantNumber(t, "too long, of zeros", impl.At(make([]int64, impl.MaxLen+1), 2), -1)
	for _, a := range noElements {
		wantNumber(t, fmt.Sprint("at ", a), impl.At([]int64{1, 1}, a), -1)
		wantNumber(t, fmt.Sprint("nought at ", a), impl.At(nil, a), -1)
		for _, l := range [][]int64{{a}, {a, 1}, {1, a}, {1, a, 0}} {
			wantNumber(t, fmt.Sprint(l, " at 0"), impl.At(l, 0), -1)
		}
	}
}

func TestASumIsTheSumAtEachElement(t *testing.T) {
	for _, f := range somePolys() {
		for _, g := range somePolys() {
			sum := impl.PolyAdd(f, g)
			wantPoly(t, "sum", sum)
			wantList(t, "sum", sum, sumOf(f, g))
			for _, x := range edgeElements {
				wantNumber(t, fmt.Sprint("sum at ", x), impl.At(sum, x), impl.Add(impl.At(f, x), impl.At(g, x)))
			}
		}
	}
}

func TestASumWithItsContraryIsNought(t *testing.T) {
	for _, f := range somePolys() {
		contrary := make([]int64, len(f))
		for i, c := range f {
			contrary[i] = mod(-c)
		}
		wantList(t, "f less f", impl.PolyAdd(f, contrary), nil)
		if len(f) > 1 {
			contrary[0] = mod(contrary[0] + 9)
			wantList(t, "all but the first are gone", impl.PolyAdd(f, contrary), []int64{9})
		}
	}
}

func TestAProductIsTheProductAtEachElement(t *testing.T) {
	for _, f := range somePolys() {
		for _, g := range somePolys() {
			product, ok := impl.PolyMul(f, g)
			what := fmt.Sprint(len(f), " times ", len(g))
			if len(f)+len(g) > impl.MaxLen+1 {
				if ok || len(product) != 0 {
					t.Errorf("%s: too long, but %v", what, product)
				}
				continue
			}
			if !ok {
				t.Errorf("%s: refused", what)
			}
			wantPoly(t, what, product)
			wantList(t, what, product, productOf(f, g))
			for _, x := range edgeElements {
				wantNumber(t, fmt.Sprint(what, " at ", x), impl.At(product, x), impl.Mul(impl.At(f, x), impl.At(g, x)))
			}
		}
	}
}

func TestFactorsAtTheLimit(t *testing.T) {
	s := series(8)
	for n := 0; n <= impl.MaxLen; n++ {
		atLimit := min(impl.MaxLen, impl.MaxLen+1-n)
		f, g := s.poly(n), s.poly(atLimit)
		if product, ok := impl.PolyMul(f, g); !ok || !same(product, productOf(f, g)) {
			t.Errorf("%d times %d: %v %v", n, atLimit, product, ok)
		}
		if n < 2 {
			continue
		}
		if product, ok := impl.PolyMul(f, s.poly(atLimit+1)); ok || len(product) != 0 {
			t.Errorf("%d times %d is taken", n, atLimit+1)
		}
	}
}

func TestWhatIsNoPolynomialIsRefused(t *testing.T) {
	for _, bad := range noPolys() {
		for _, g := range append(somePolys(), noPolys()...) {
			for _, pair := range [][2][]int64{{bad, g}, {g, bad}} {
				wantList(t, "sum", impl.PolyAdd(pair[0], pair[1]), nil)
				if product, ok := impl.PolyMul(pair[0], pair[1]); ok || len(product) != 0 {
					t.Errorf("%v times %v: %v", pair[0], pair[1], product)
				}
				if q, r, ok := impl.Divided(pair[0], pair[1]); ok || len(q) != 0 || len(r) != 0 {
					t.Errorf("%v by %v: %v %v", pair[0], pair[1], q, r)
				}
			}
		}
	}
}

func TestDividedIsQuotientTimesDivisorAndRest(t *testing.T) {
	for _, f := range somePolys() {
		for _, g := range somePolys() {
			if len(g) == 0 {
				continue
			}
			q, r, ok := impl.Divided(f, g)
			what := fmt.Sprint(len(f), " by ", len(g))
			if !ok || len(r) >= len(g) {
				t.Errorf("%s: %v, a rest of %d", what, ok, len(r))
			}
			wantPoly(t, what+", quotient", q)
			wantPoly(t, what+", rest", r)
			wantList(t, what, sumOf(productOf(q, g), r), f)
		}
	}
}

func TestDividedFindsWhatWasPutTogether(t *testing.T) {
	s := series(9)
	for m := 1; m <= impl.MaxLen; m += 9 {
		for n := 0; n+m <= impl.MaxLen+1; n += 8 {
			for _, k := range []int{0, 1, m / 2, m - 1} {
				if k >= m {
					continue
				}
				g, q, r := s.poly(m), s.poly(n), s.poly(k)
				gotQ, gotR, ok := impl.Divided(sumOf(productOf(q, g), r), g)
				if !ok || !same(gotQ, q) || !same(gotR, r) {
					t.Errorf("%d times %d and %d: %v %v %v", n, m, k, gotQ, gotR, ok)
				}
			}
		}
	}
}

func TestDivisionAtTheEdges(t *testing.T) {
	s := series(10)
	f := s.poly(impl.MaxLen)
	for _, nought := range [][]int64{nil, {}} {
		for _, l := range somePolys() {
			if q, r, ok := impl.Divided(l, nought); ok || len(q) != 0 || len(r) != 0 {
				t.Errorf("by nought: %v %v", q, r)
			}
		}
		q, r, ok := impl.Divided(nought, f)
		if !ok || len(q) != 0 || len(r) != 0 {
			t.Errorf("nought by f: %v %v %v", q, r, ok)
		}
	}
	if q, r, ok := impl.Divided(f, f); !ok || !same(q, []int64{1}) || len(r) != 0 {
		t.Errorf("f by f: %v %v %v", q, r, ok)
	}
	if q, r, ok := impl.Divided(f, []int64{1}); !ok || !same(q, f) || len(r) != 0 {
		t.Errorf("f by 1: %v %v %v", q, r, ok)
	}
	if q, r, ok := impl.Divided(f[:0:0], []int64{1}); !ok || len(q) != 0 || len(r) != 0 {
		t.Errorf("nought by 1: %v %v %v", q, r, ok)
	}
}

func TestThroughIsTheOnePolynomial(t *testing.T) {
	s := series(11)
	for n := 1; n <= impl.MaxPoints; n++ {
		xs := s.places(n)
		for _, m := range []int{0, 1, n / 2, n - 1, n} {
			f := s.poly(m)
			ys := make([]int64, n)
			for i, x := range xs {
				ys[i] = valueAt(f, x)
			}
			got, ok := impl.Through(xs, ys)
			if !ok || !same(got, f) {
				t.Errorf("%d points of %d coefficients: %v %v", n, m, got, ok)
			}
		}
	}
}

func TestThroughHasTheValues(t *testing.T) {
	s := series(12)
	for _, n := range []int{1, 2, 3, 33, impl.MaxPoints} {
		xs, ys := s.places(n), s.list(n)
		f, ok := impl.Through(xs, ys)
		if !ok || len(f) > n {
			t.Errorf("%d points: %d coefficients, %v", n, len(f), ok)
		}
		wantPoly(t, fmt.Sprint(n, " points"), f)
		for i, x := range xs {
			wantNumber(t, fmt.Sprint("at ", x), valueAt(f, x), ys[i])
		}
	}
}

func TestThroughAtTheEdges(t *testing.T) {
	const last = prime - 1
	for _, c := range []struct{ xs, ys, want []int64 }{
		{[]int64{0}, []int64{0}, nil},
		{[]int64{last}, []int64{last}, []int64{last}},
		{[]int64{0, 1, last}, []int64{0, 0, 0}, nil},
		{[]int64{0, 1, last}, []int64{0, 1, 1}, []int64{0, 0, 1}},
		{[]int64{5, 0}, []int64{5, 0}, []int64{0, 1}},
		{[]int64{3, 2, 1}, []int64{7, 7, 7}, []int64{7}},
	} {
		got, ok := impl.Through(c.xs, c.ys)
		if !ok || !same(got, c.want) {
			t.Errorf("through %v %v: %v %v", c.xs, c.ys, got, ok)
		}
	}
}

func wantNoThrough(t *testing.T, what string, xs []int64, ys []int64) {
	t.Helper()
	if f, ok := impl.Through(xs, ys); ok || len(f) != 0 {
		t.Errorf("%s: %v %v", what, f, ok)
	}
}

func TestThroughRefuses(t *testing.T) {
	s := series(13)
	many := s.places(impl.MaxPoints + 1)
	wantNoThrough(t, "no points", nil, nil)
	wantNoThrough(t, "no places", nil, []int64{1})
	wantNoThrough(t, "no values", []int64{1}, nil)
	wantNoThrough(t, "one point too many", many, s.list(len(many)))
	wantNoThrough(t, "a value too few", many[:5], s.list(4))
	wantNoThrough(t, "a value too many", many[:5], s.list(6))
	wantNoThrough(t, "too many values alone", many[:impl.MaxPoints], s.list(len(many)))
	for _, n := range []int{1, 2, 5, impl.MaxPoints} {
		for _, i := range []int{0, n / 2, n - 1} {
			for _, a := range noElements {
				xs, ys := s.places(n), s.list(n)
				xs[i] = a
				wantNoThrough(t, fmt.Sprint("a place ", a), xs, ys)
				xs, ys = s.places(n), s.list(n)
				ys[i] = a
				wantNoThrough(t, fmt.Sprint("a value ", a), xs, ys)
			}
		}
	}
}

func TestThroughRefusesTwoAtTheSamePlace(t *testing.T) {
	s := series(14)
	for _, n := range []int{2, 3, impl.MaxPoints} {
		for _, pair := range [][2]int{{0, 1}, {0, n - 1}, {n - 2, n - 1}} {
			xs, ys := s.places(n), s.list(n)
			xs[pair[1]] = xs[pair[0]]
			wantNoThrough(t, "unlike values", xs, ys)
			ys[pair[1]] = ys[pair[0]]
			wantNoThrough(t, "the same point twice", xs, ys)
		}
	}
}
