package tests

import (
	"fmt"
	"slices"
	"testing"

	"loop.example/g00319/impl"
)

// spare is what stands in the room behind a guarded list; no call writes such a number.
const spare = -77

// scribble, and the numbers below it, are what the tests write into answers; nothing else is such a number.
const scribble = -99

// guarded is a list with room behind it, all of which is watched.
type guarded[T comparable] struct {
	whole []T
	was   []T
	n     int
}

func guardWith[T comparable](l []T, behind T) *guarded[T] {
	// As much room again and more: enough for whatever a call might append.
	whole := append([]T{}, l...)
	for range len(l) + impl.MaxLen + 2 {
		whole = append(whole, behind)
	}
	return &guarded[T]{whole: whole, was: append([]T{}, whole...), n: len(l)}
}

func guard(l []int64) *guarded[int64] { return guardWith(l, spare) }

func (g *guarded[T]) list() []T { return g.whole[:g.n] }

func (g *guarded[T]) touched() bool { return !slices.Equal(g.whole, g.was) }

// listCall is a call under watch: it takes two lists and tells the lists of its answer.
type listCall struct {
	name string
	call func(f []int64, g []int64) [][]int64
}

func listCalls() []listCall {
	return append(polyCalls(), pointCalls()...)
}

// pointCalls are those of transforms and folds: of the two lists they take the first one alone.
func pointCalls() []listCall {
	out := []listCall{
		{"Halves", func(f []int64, g []int64) [][]int64 {
			even, odd := impl.Halves(f)
			return [][]int64{even, odd}
		}},
		{"FromEvals", func(f []int64, g []int64) [][]int64 {
			h, _ := impl.FromEvals(f, 3)
			return [][]int64{h}
		}},
		{"Folded", func(f []int64, g []int64) [][]int64 {
			l, _ := impl.Folded(f, 3, 5)
			return [][]int64{l}
		}},
		{"Below", func(f []int64, g []int64) [][]int64 {
			impl.Below(f, 3, 5)
			return nil
		}},
	}
	for _, n := range []int64{1, 2, 16, impl.MaxPoints, impl.MaxPoints + 1} {
		out = append(out, listCall{fmt.Sprint("Evals at ", n), func(f []int64, g []int64) [][]int64 {
			l, _ := impl.Evals(f, n, 3)
			return [][]int64{l, impl.Points(n, 3)}
		}})
	}
	return out
}

func polyCalls() []listCall {
	return []listCall{
		{"PolyOk", func(f []int64, g []int64) [][]int64 {
			impl.PolyOk(f)
			return nil
		}},
		{"Trimmed", func(f []int64, g []int64) [][]int64 {
			return [][]int64{impl.Trimmed(f)}
		}},
		{"At", func(f []int64, g []int64) [][]int64 {
			return [][]int64{{impl.At(f, 3)}}
		}},
		{"PolyAdd", func(f []int64, g []int64) [][]int64 {
			return [][]int64{impl.PolyAdd(f, g)}
		}},
		{"PolyMul", func(f []int64, g []int64) [][]int64 {
			product, _ := impl.PolyMul(f, g)
			return [][]int64{product}
		}},
		{"Divided", func(f []int64, g []int64) [][]int64 {
			q, r, _ := impl.Divided(f, g)
			return [][]int64{q, r}
		}},
		{"Through", func(f []int64, g []int64) [][]int64 {
			h, _ := impl.Through(f, g)
			return [][]int64{h}
		}},
	}
}

// watchedPairs are right and wrong arguments, and for Through as many places as values.
func watchedPairs() [][2][]int64 {
	var out [][2][]int64
	lists := append(append(somePolys(), noPolys()[:12]...), []int64{5, 4, 0, 0})
	for _, f := range lists {
		for _, g := range lists {
			out = append(out, [2][]int64{f, g})
		}
	}
	s := series(15)
	for _, n := range []int{1, 2, 9, impl.MaxPoints, impl.MaxPoints + 1} {
		out = append(out, [2][]int64{s.places(n), s.list(n)})
	}
	return out
}

func copies(lists [][]int64) [][]int64 {
	var out [][]int64
	for _, l := range lists {
		out = append(out, append([]int64{}, l...))
	}
	return out
}

func sameLists(a [][]int64, b [][]int64) bool {
	if len(a) != len(b) {
		return false
	}
	for i := range a {
		if !same(a[i], b[i]) {
			return false
		}
	}
	return true
}

// scribbleOver fills each list and the room behind it with a number of its own,
// and says whether each has kept its number: else two of them share memory.
func scribbleOver(lists [][]int64) bool {
	for i, l := range lists {
		for j := range l[:cap(l)] {
			l[:cap(l)][j] = int64(scribble - i)
		}
	}
	for i, l := range lists {
		for _, a := range l[:cap(l)] {
			if a != int64(scribble-i) {
				return false
			}
		}
	}
	return true
}

func checkCall(t *testing.T, c listCall, f *guarded[int64], g *guarded[int64]) {
	t.Helper()
	what := fmt.Sprint(c.name, " of ", f.list(), " and ", g.list())
	first := c.call(f.list(), g.list())
	kept := copies(first)
	if f.touched() || g.touched() {
		t.Fatalf("%s: an argument is written into", what)
	}
	if !sameLists(c.call(f.list(), g.list()), kept) || !sameLists(first, kept) {
		t.Fatalf("%s: another answer the second time", what)
	}
	if !scribbleOver(first) {
		t.Fatalf("%s: two lists of the answer share memory", what)
	}
	if f.touched() || g.touched() {
		t.Fatalf("%s: the answer shares memory with an argument", what)
	}
	if !sameLists(c.call(f.list(), g.list()), kept) {
		t.Fatalf("%s: another answer when the first was written over", what)
	}
}

func TestNothingIsWrittenIntoAnArgumentOrShared(t *testing.T) {
	for _, c := range listCalls() {
		for _, pair := range watchedPairs() {
			checkCall(t, c, guard(pair[0]), guard(pair[1]))
		}
	}
}

func TestOneListAsBothArguments(t *testing.T) {
	for _, c := range listCalls() {
		for _, pair := range watchedPairs() {
			g := guard(pair[0])
			checkCall(t, c, g, g)
		}
	}
}
