package impl

const MaxLen = 128

// poly is a polynomial whose coefficients are known to be elements and whose last one is not 0.
// Its methods write into no poly that exists already: each answers new memory.
type poly []element

// fold takes the values of l into sofar, one by one, from the first to the last.
func fold[T any, A any](l []T, sofar A, take func(A, T) A) A {
	for _, v := range l {
		sofar = take(sofar, v)
	}
	return sofar
}

// foldBack is fold from the last value to the first: the way of Horner's rule.
func foldBack[T any, A any](l []T, sofar A, take func(A, T) A) A {
	for i := len(l) - 1; i >= 0; i-- {
		sofar = take(sofar, l[i])
	}
	return sofar
}

func allElements(l []int64) bool {
	return fold(l, true, func(ok bool, a int64) bool {
		_, isElement := elementOf(a)
		return ok && isElement
	})
}

// elementsOf wants elements alone.
func elementsOf(l []int64) []element {
	return fold(l, make([]element, 0, len(l)), func(out []element, a int64) []element {
		return append(out, element(a))
	})
}

func numbersOf(l []element) []int64 {
	return fold(l, make([]int64, 0, len(l)), func(out []int64, a element) []int64 {
		return append(out, int64(a))
	})
}

// coefficientsOk says whether l is a polynomial but for zeros at its end.
func coefficientsOk(l []int64) bool {
	return len(l) <= MaxLen && allElements(l)
}

func trimmedPoly(l []element) poly {
	n := len(l)
	for n > 0 && l[n-1] == 0 {
		n--
	}
	return append(make(poly, 0, n), l[:n]...)
}

// polysOf tells the polynomials f and g, if they are such.
func polysOf(f []int64, g []int64) (poly, poly, bool) {
	if !PolyOk(f) || !PolyOk(g) {
		return nil, nil, false
	}
	return elementsOf(f), elementsOf(g), true
}

func (f poly) at(x element) element {
	return foldBack(f, 0, func(sum element, c element) element {
		return sum.times(x).plus(c)
	})
}

func (f poly) plus(g poly) poly {
	sum := make([]element, max(len(f), len(g)))
	copy(sum, f)
	for i, c := range g {
		sum[i] = sum[i].plus(c)
	}
	return trimmedPoly(sum)
}

func (f poly) scaled(c element) poly {
	out := fold(f, make([]element, 0, len(f)), func(out []element, a element) []element {
		return append(out, a.times(c))
	})
	return trimmedPoly(out)
}

func (f poly) minus(g poly) poly {
	return f.plus(g.scaled(element(0).minus(1)))
}

// shifted is f times x, and c.
func (f poly) shifted(c element) poly {
	out := append(make([]element, 0, len(f)+1), c)
	return trimmedPoly(append(out, f...))
}

func (f poly) times(g poly) poly {
	return foldBack(f, poly{}, func(sum poly, c element) poly {
		return sum.shifted(0).plus(g.scaled(c))
	})
}

// split is what a division has so far: of the coefficients that it has seen, the quotient and the rest.
type split struct {
	quotient poly
	rest     poly
}

// dividedBy wants g not to be nought. A rest that is shorter than g has at most as many
// coefficients as g when one more is shifted in, so one multiple of g makes it short again.
func (f poly) dividedBy(g poly) split {
	lead := g[len(g)-1].inverse()
	return foldBack(f, split{}, func(s split, c element) split {
		factor := element(0)
		rest := s.rest.shifted(c)
		if len(rest) == len(g) {
			factor = rest[len(rest)-1].times(lead)
			rest = rest.minus(g.scaled(factor))
		}
		return split{s.quotient.shifted(factor), rest}
	})
}

// point is a place and the value that is wanted there.
type point struct {
	x element
	y element
}

// pass is, for the points so far, the polynomial through them and one that is 0 at just these.
type pass struct {
	through poly
	zero    poly
}

// passWith wants p.x to be none of the places so far, so that zero is not 0 there.
func passWith(s pass, p point) pass {
	lack := p.y.minus(s.through.at(p.x))
	factor := lack.times(s.zero.at(p.x).inverse())
	return pass{
		through: s.through.plus(s.zero.scaled(factor)),
		zero:    s.zero.shifted(0).minus(s.zero.scaled(p.x)),
	}
}

func pointsOf(xs []int64, ys []int64) []point {
	out := make([]point, 0, len(xs))
	for i, x := range xs {
		out = append(out, point{element(x), element(ys[i])})
	}
	return out
}

func allUnlike(l []int64) bool {
	for i, a := range l {
		for _, b := range l[:i] {
			if a == b {
				return false
			}
		}
	}
	return true
}

func PolyOk(f []int64) bool {
	return coefficientsOk(f) && (len(f) == 0 || f[len(f)-1] != 0)
}

func Trimmed(f []int64) []int64 {
	if !coefficientsOk(f) {
		return nil
	}
	return numbersOf(trimmedPoly(elementsOf(f)))
}

func At(f []int64, x int64) int64 {
	place, ok := elementOf(x)
	if !ok || !coefficientsOk(f) {
		return noElement
	}
	return int64(trimmedPoly(elementsOf(f)).at(place))
}

func PolyAdd(f []int64, g []int64) []int64 {
	a, b, ok := polysOf(f, g)
	if !ok {
		return nil
	}
	return numbersOf(a.plus(b))
}

func PolyMul(f []int64, g []int64) ([]int64, bool) {
	a, b, ok := polysOf(f, g)
	if !ok || len(a)+len(b) > MaxLen+1 {
		return nil, false
	}
	return numbersOf(a.times(b)), true
}

func Divided(f []int64, g []int64) ([]int64, []int64, bool) {
	a, b, ok := polysOf(f, g)
	if !ok || len(b) == 0 {
		return nil, nil, false
	}
	s := a.dividedBy(b)
	return numbersOf(s.quotient), numbersOf(s.rest), true
}

func Through(xs []int64, ys []int64) ([]int64, bool) {
	if len(xs) < 1 || len(xs) > MaxPoints || len(ys) != len(xs) {
		return nil, false
	}
	if !allElements(xs) || !allElements(ys) || !allUnlike(xs) {
		return nil, false
	}
	nothing := pass{through: poly{}, zero: poly{1}}
	last := fold(pointsOf(xs, ys), nothing, passWith)
	return numbersOf(last.through), true
}
