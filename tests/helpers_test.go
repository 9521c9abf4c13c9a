package tests

import (
	"math"
	"testing"

	"loop.example/g00319/impl"
)

const prime = 65537

// edgeElements are those at which a slip of one or a wrong reduction shows.
var edgeElements = []int64{0, 1, 2, 3, 255, 256, 257, 32768, 32769, 65534, 65535, 65536}

var noElements = []int64{-1, prime, prime + 1, -prime, 1 << 32, math.MinInt64, math.MaxInt64}

// series makes elements that look unordered but are the same in every run.
type series uint64

func (s *series) element() int64 {
	*s = *s*6364136223846793005 + 1442695040888963407
	return int64(*s>>33) % prime
}

func (s *series) list(n int) []int64 {
	out := make([]int64, n)
	for i := range out {
		out[i] = s.element()
	}
	return out
}

// poly is a polynomial of just n coefficients.
func (s *series) poly(n int) []int64 {
	out := s.list(n)
	if n > 0 && out[n-1] == 0 {
		out[n-1] = 1
	}
	return out
}

// places are n elements of which no two are the same.
func (s *series) places(n int) []int64 {
	var out []int64
	seen := map[int64]bool{}
	for len(out) < n {
		x := s.element()
		if !seen[x] {
			seen[x] = true
			out = append(out, x)
		}
	}
	return out
}

func mod(a int64) int64 { return ((a % prime) + prime) % prime }

// valueAt reckons without the program: the powers of x one by one.
func valueAt(f []int64, x int64) int64 {
	sum, power := int64(0), int64(1)
	for _, c := range f {
		sum = mod(sum + c*power)
		power = mod(power * x)
	}
	return sum
}

// productOf multiplies without the program, each coefficient with each.
func productOf(f []int64, g []int64) []int64 {
	if len(f) == 0 || len(g) == 0 {
		return nil
	}
	out := make([]int64, len(f)+len(g)-1)
	for i, a := range f {
		for j, b := range g {
			out[i+j] = mod(out[i+j] + a*b)
		}
	}
	return out
}

// sumOf adds without the program, and cuts the zeros off the end.
func sumOf(f []int64, g []int64) []int64 {
	out := make([]int64, max(len(f), len(g)))
	for i := range out {
		if i < len(f) {
			out[i] += f[i]
		}
		if i < len(g) {
			out[i] += g[i]
		}
		out[i] = mod(out[i])
	}
	for len(out) > 0 && out[len(out)-1] == 0 {
		out = out[:len(out)-1]
	}
	return out
}

func same(a []int64, b []int64) bool {
	if len(a) != len(b) {
		return false
	}
	for i := range a {
		if a[i] != b[i] {
			return false
		}
	}
	return true
}

func wantNumber(t *testing.T, what string, got int64, want int64) {
	t.Helper()
	if got != want {
		t.Errorf("%s: %d, wanted %d", what, got, want)
	}
}

func wantList(t *testing.T, what string, got []int64, want []int64) {
	t.Helper()
	if !same(got, want) {
		t.Errorf("%s: %v, wanted %v", what, got, want)
	}
}

// wantPoly says, without the program's own PolyOk, that a list is a polynomial.
func wantPoly(t *testing.T, what string, f []int64) {
	t.Helper()
	if len(f) > impl.MaxLen || len(f) > 0 && f[len(f)-1] == 0 {
		t.Errorf("%s: %v is no polynomial", what, f)
	}
	for _, c := range f {
		if c < 0 || c >= prime {
			t.Errorf("%s: %d is no element", what, c)
		}
	}
}

// noPolys are the lists that are none: too long, a zero at the end, what is no element at any place.
func noPolys() [][]int64 {
	s := series(1)
	out := [][]int64{s.poly(impl.MaxLen + 1), {0}, {1, 0}, {0, 0, 0}, append(s.poly(impl.MaxLen-1), 0), make([]int64, impl.MaxLen+1)}
	for _, a := range noElements {
		out = append(out, []int64{a}, []int64{a, 1}, []int64{1, a}, []int64{1, a, 1}, append(s.poly(impl.MaxLen-1), a))
	}
	return out
}

// somePolys are of all the lengths at which something changes.
func somePolys() [][]int64 {
	s := series(2)
	out := [][]int64{nil, {}, {1}, {prime - 1}, {0, 1}, {prime - 1, 1}, {0, 0, 0, 5}, {prime - 1, 0, 1}}
	for _, n := range []int{1, 2, 3, 4, 7, 16, 63, 64, 65, 66, impl.MaxLen - 1, impl.MaxLen} {
		out = append(out, s.poly(n))
	}
	return out
}
