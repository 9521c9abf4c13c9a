package impl

const Prime = 65537

// generator's powers are all elements but 0, so that its roots have the full order.
const generator = 3

// noElement is what the field's functions answer where there is no element to tell.
const noElement = -1

// element is a number of the field, always 0 .. Prime - 1: elementOf lets nothing else in,
// and the methods lead to nothing else.
type element int64

func elementOf(a int64) (element, bool) {
	if a < 0 || a >= Prime {
		return 0, false
	}
	return element(a), true
}

func elementPairOf(a int64, b int64) (element, element, bool) {
	x, xOk := elementOf(a)
	y, yOk := elementOf(b)
	return x, y, xOk && yOk
}

func (a element) plus(b element) element {
	return (a + b) % Prime
}

func (a element) minus(b element) element {
	// Prime is added first, since % keeps the sign of a number below 0.
	return (a + Prime - b) % Prime
}

func (a element) times(b element) element {
	return a * b % Prime
}

// power wants n to be 0 or more. It squares, so that any such n ends soon.
func (a element) power(n int64) element {
	product := element(1)
	for n > 0 {
		if n%2 == 1 {
			product = product.times(a)
		}
		a = a.times(a)
		n /= 2
	}
	return product
}

// inverse wants a not to be 0. By Fermat a to the Prime - 1 is 1, so one factor less is the inverse.
func (a element) inverse() element {
	return a.power(Prime - 2)
}

func Add(a int64, b int64) int64 {
	x, y, ok := elementPairOf(a, b)
	if !ok {
		return noElement
	}
	return int64(x.plus(y))
}

func Sub(a int64, b int64) int64 {
	x, y, ok := elementPairOf(a, b)
	if !ok {
		return noElement
	}
	return int64(x.minus(y))
}

func Mul(a int64, b int64) int64 {
	x, y, ok := elementPairOf(a, b)
	if !ok {
		return noElement
	}
	return int64(x.times(y))
}

func Pow(a int64, n int64) int64 {
	x, ok := elementOf(a)
	if !ok || n < 0 {
		return noElement
	}
	return int64(x.power(n))
}

func Inv(a int64) int64 {
	x, ok := elementOf(a)
	if !ok || x == 0 {
		return noElement
	}
	return int64(x.inverse())
}

func RootOf(n int64) int64 {
	// Prime - 1 is 65536, so what divides it is just 1, 2, 4 and so on to 65536.
	if n < 1 || (Prime-1)%n != 0 {
		return noElement
	}
	return int64(element(generator).power((Prime - 1) / n))
}
