package tests

import (
	"fmt"
	"math"
	"math/big"
	"testing"

	"loop.example/g00319/impl"
)

func fieldSample() []int64 {
	s := series(3)
	return append(s.list(40), edgeElements...)
}

func TestPrimeIsAsNamed(t *testing.T) {
	wantNumber(t, "Prime", impl.Prime, 65537)
}

func TestSumsDifferencesAndProducts(t *testing.T) {
	for _, a := range fieldSample() {
		for _, b := range fieldSample() {
			what := fmt.Sprint(a, " and ", b)
			wantNumber(t, "Add of "+what, impl.Add(a, b), (a+b)%prime)
			wantNumber(t, "Sub of "+what, impl.Sub(a, b), (a-b+prime)%prime)
			wantNumber(t, "Mul of "+what, impl.Mul(a, b), a*b%prime)
		}
	}
}

func TestSumsAndProductsAtTheEdges(t *testing.T) {
	const last = prime - 1
	wantNumber(t, "0 and 0", impl.Add(0, 0), 0)
	wantNumber(t, "the last one and 1", impl.Add(last, 1), 0)
	wantNumber(t, "the last one twice", impl.Add(last, last), prime-2)
	wantNumber(t, "0 less 1", impl.Sub(0, 1), last)
	wantNumber(t, "0 less 0", impl.Sub(0, 0), 0)
	wantNumber(t, "0 less the last one", impl.Sub(0, last), 1)
	wantNumber(t, "the last one times itself", impl.Mul(last, last), 1)
	wantNumber(t, "256 times 256", impl.Mul(256, 256), last)
	wantNumber(t, "0 times the last one", impl.Mul(0, last), 0)
	wantNumber(t, "1 times the last one", impl.Mul(1, last), last)
}

func TestLawsOfAField(t *testing.T) {
	s := series(4)
	l := append(s.list(12), 0, 1, prime-1)
	for _, a := range l {
		wantNumber(t, "a and 0", impl.Add(a, 0), a)
		wantNumber(t, "a times 1", impl.Mul(a, 1), a)
		wantNumber(t, "a less a", impl.Sub(a, a), 0)
		for _, b := range l {
			wantNumber(t, "a and b", impl.Add(a, b), impl.Add(b, a))
			wantNumber(t, "a times b", impl.Mul(a, b), impl.Mul(b, a))
			wantNumber(t, "a and b less b", impl.Sub(impl.Add(a, b), b), a)
			for _, c := range l {
				wantNumber(t, "sums in a row", impl.Add(impl.Add(a, b), c), impl.Add(a, impl.Add(b, c)))
				wantNumber(t, "products in a row", impl.Mul(impl.Mul(a, b), c), impl.Mul(a, impl.Mul(b, c)))
				wantNumber(t, "a times a sum", impl.Mul(a, impl.Add(b, c)), impl.Add(impl.Mul(a, b), impl.Mul(a, c)))
			}
		}
	}
}

func TestWhatIsNoElementIsRefused(t *testing.T) {
	for _, bad := range noElements {
		for _, b := range append(edgeElements, noElements...) {
			what := fmt.Sprint(bad, " and ", b)
			wantNumber(t, "Add of "+what, impl.Add(bad, b), -1)
			wantNumber(t, "Add turned of "+what, impl.Add(b, bad), -1)
			wantNumber(t, "Sub of "+what, impl.Sub(bad, b), -1)
			wantNumber(t, "Sub turned of "+what, impl.Sub(b, bad), -1)
			wantNumber(t, "Mul of "+what, impl.Mul(bad, b), -1)
			wantNumber(t, "Mul turned of "+what, impl.Mul(b, bad), -1)
			wantNumber(t, "Pow of "+what, impl.Pow(bad, b), -1)
		}
		wantNumber(t, fmt.Sprint("Inv of ", bad), impl.Inv(bad), -1)
	}
}

func TestPowersAreProducts(t *testing.T) {
	for _, a := range fieldSample() {
		product := int64(1)
		for n := range int64(40) {
			wantNumber(t, fmt.Sprint(a, " to the ", n), impl.Pow(a, n), product)
			product = product * a % prime
		}
	}
}

func TestGreatPowers(t *testing.T) {
	greats := []int64{255, 256, 65535, 65536, 65537, 1 << 32, 1<<62 + 12345, math.MaxInt64 - 1, math.MaxInt64}
	for _, a := range fieldSample() {
		for _, n := range greats {
			want := new(big.Int).Exp(big.NewInt(a), big.NewInt(n), big.NewInt(prime)).Int64()
			wantNumber(t, fmt.Sprint(a, " to the ", n), impl.Pow(a, n), want)
		}
	}
}

func TestPowersAtTheEdges(t *testing.T) {
	wantNumber(t, "0 to the 0", impl.Pow(0, 0), 1)
	wantNumber(t, "1 to the 0", impl.Pow(1, 0), 1)
	wantNumber(t, "the last one to the 0", impl.Pow(prime-1, 0), 1)
	wantNumber(t, "0 to the 1", impl.Pow(0, 1), 0)
	wantNumber(t, "0 to the most", impl.Pow(0, math.MaxInt64), 0)
	wantNumber(t, "the last one to the most", impl.Pow(prime-1, math.MaxInt64), prime-1)
	for _, a := range edgeElements {
		for _, n := range []int64{-1, -2, -prime, math.MinInt64} {
			wantNumber(t, fmt.Sprint(a, " to the ", n), impl.Pow(a, n), -1)
		}
	}
}

func TestEveryElementButNoughtHasAnInverse(t *testing.T) {
	wantNumber(t, "Inv of 0", impl.Inv(0), -1)
	wantNumber(t, "Inv of 1", impl.Inv(1), 1)
	wantNumber(t, "Inv of the last one", impl.Inv(prime-1), prime-1)
	for a := int64(1); a < prime; a++ {
		b := impl.Inv(a)
		if b < 1 || b >= prime || a*b%prime != 1 {
			t.Fatalf("Inv of %d: %d", a, b)
		}
	}
}

func TestRootsHaveTheirOrder(t *testing.T) {
	wantNumber(t, "RootOf 1", impl.RootOf(1), 1)
	wantNumber(t, "RootOf 2", impl.RootOf(2), prime-1)
	wantNumber(t, "RootOf 65536", impl.RootOf(65536), 3)
	for n := int64(1); n <= 65536; n *= 2 {
		root := impl.RootOf(n)
		want := new(big.Int).Exp(big.NewInt(3), big.NewInt(65536/n), big.NewInt(prime)).Int64()
		wantNumber(t, fmt.Sprint("RootOf ", n), root, want)
		wantNumber(t, fmt.Sprint("RootOf ", n, " to the ", n), impl.Pow(root, n), 1)
		if n > 1 {
			wantNumber(t, fmt.Sprint("RootOf ", n, " to the half"), impl.Pow(root, n/2), prime-1)
		}
	}
}

func TestOtherRootsAreRefused(t *testing.T) {
	right := map[int64]bool{}
	for n := int64(1); n <= 65536; n *= 2 {
		right[n] = true
	}
	for n := int64(-300); n < 140000; n++ {
		if !right[n] {
			wantNumber(t, fmt.Sprint("RootOf ", n), impl.RootOf(n), -1)
		}
	}
	for _, n := range []int64{-65536, 1 << 32, 1 << 62, math.MaxInt64, math.MinInt64} {
		wantNumber(t, fmt.Sprint("RootOf ", n), impl.RootOf(n), -1)
	}
}
