package tests

import (
	"fmt"
	"math"
	"slices"
	"testing"

	"loop.example/g00319/impl"
)

// ruleAt reckons without the program what a rule says.
func ruleAt(r impl.Rule, s impl.State) int64 {
	sum := int64(0)
	for _, product := range [][]int64{{r.XX, s.X, s.X}, {r.XY, s.X, s.Y}, {r.YY, s.Y, s.Y}, {r.X, s.X}, {r.Y, s.Y}, {r.K}} {
		term := int64(1)
		for _, a := range product {
			term = mod(term * a)
		}
		sum = mod(sum + term)
	}
	return sum
}

func nextOf(m impl.Machine, s impl.State) impl.State {
	return impl.State{X: ruleAt(m.X, s), Y: ruleAt(m.Y, s)}
}

// runOf reckons without the program a run of n steps.
func runOf(m impl.Machine, s impl.State, n int64) []impl.State {
	out := []impl.State{s}
	for range n {
		out = append(out, nextOf(m, out[len(out)-1]))
	}
	return out
}

// numbersIn are all twelve numbers of a machine, to be set.
func numbersIn(m *impl.Machine) []*int64 {
	var out []*int64
	for _, r := range []*impl.Rule{&m.X, &m.Y} {
		out = append(out, &r.XX, &r.XY, &r.YY, &r.X, &r.Y, &r.K)
	}
	return out
}

func machineOf(numbers []int64) impl.Machine {
	var m impl.Machine
	for i, place := range numbersIn(&m) {
		*place = numbers[i]
	}
	return m
}

func fib() impl.Machine {
	return impl.Machine{X: impl.Rule{Y: 1}, Y: impl.Rule{X: 1, Y: 1}}
}

// still stays in each state.
func still() impl.Machine {
	return impl.Machine{X: impl.Rule{X: 1}, Y: impl.Rule{Y: 1}}
}

func squares() impl.Machine {
	return impl.Machine{X: impl.Rule{XX: 1}, Y: impl.Rule{YY: 1}}
}

// someMachines have the edges among them: no number but 0, each number alone, all of them Prime - 1.
func someMachines() []impl.Machine {
	s := series(51)
	highest := slices.Repeat([]int64{prime - 1}, 12)
	out := []impl.Machine{{}, fib(), still(), squares(), machineOf(highest), machineOf(s.list(12)), machineOf(s.list(12))}
	for i := range 12 {
		for _, a := range []int64{1, prime - 1, s.element()} {
			alone := make([]int64, 12)
			alone[i] = a
			out = append(out, machineOf(alone))
		}
	}
	return out
}

func someStates() []impl.State {
	s := series(52)
	return []impl.State{{}, {X: 1}, {Y: 1}, {X: 1, Y: 1}, {X: prime - 1}, {Y: prime - 1}, {X: prime - 1, Y: prime - 1}, {X: 2, Y: 3}, {X: s.element(), Y: s.element()}}
}

// noMachines have one number that is no element, wherever it stands.
func noMachines() []impl.Machine {
	var out []impl.Machine
	for _, m := range []impl.Machine{{}, fib(), machineOf(slices.Repeat([]int64{prime - 1}, 12))} {
		for i := range 12 {
			for _, a := range noElements {
				wrong := m
				*numbersIn(&wrong)[i] = a
				out = append(out, wrong)
			}
		}
	}
	return out
}

func noStates() []impl.State {
	var out []impl.State
	for _, a := range noElements {
		out = append(out, impl.State{X: a}, impl.State{Y: a}, impl.State{X: a, Y: a}, impl.State{X: prime - 1, Y: a}, impl.State{X: a, Y: prime - 1})
	}
	return out
}

// forRuns calls f with all machines and states.
func forRuns(f func(m impl.Machine, s impl.State, what string)) {
	for _, m := range someMachines() {
		for _, s := range someStates() {
			f(m, s, fmt.Sprint("machine ", m, " from ", s))
		}
	}
}

func wantNoRun(t *testing.T, what string, m impl.Machine, s impl.State, n int64) {
	t.Helper()
	if l, ok := impl.RunOf(m, s, n); ok || len(l) != 0 {
		t.Errorf("run of %d, %s: %v %v", n, what, l, ok)
	}
	if last, ok := impl.After(m, s, n); ok || last != (impl.State{}) {
		t.Errorf("after %d, %s: %v %v", n, what, last, ok)
	}
}

func TestLimitOfRuns(t *testing.T) {
	wantNumber(t, "MaxSteps", impl.MaxSteps, 1000)
}

func TestWhatIsAMachine(t *testing.T) {
	for _, m := range someMachines() {
		if !impl.MachineOk(m) {
			t.Errorf("%v is none", m)
		}
	}
	for i := range 12 {
		for _, a := range edgeElements {
			m := fib()
			*numbersIn(&m)[i] = a
			if !impl.MachineOk(m) {
				t.Errorf("%v is none", m)
			}
		}
	}
	for _, m := range noMachines() {
		if impl.MachineOk(m) {
			t.Errorf("%v is one", m)
		}
	}
}

func TestWhatIsAState(t *testing.T) {
	for _, x := range edgeElements {
		for _, y := range edgeElements {
			if !impl.StateOk(impl.State{X: x, Y: y}) {
				t.Errorf("%d and %d are none", x, y)
			}
		}
	}
	for _, s := range noStates() {
		if impl.StateOk(s) {
			t.Errorf("%v is one", s)
		}
	}
}

func TestNextIsWhatTheRulesSay(t *testing.T) {
	forRuns(func(m impl.Machine, s impl.State, what string) {
		next, ok := impl.Next(m, s)
		if !ok || next != nextOf(m, s) {
			t.Errorf("%s: %v %v, wanted %v", what, next, ok, nextOf(m, s))
		}
	})
}

func TestNextThatIsKnown(t *testing.T) {
	// Each number alone, at 3 and 5: what it stands with is told apart.
	for i, product := range []int64{9, 15, 25, 3, 5, 1} {
		for rule := range 2 {
			numbers := make([]int64, 12)
			numbers[6*rule+i] = 7
			want := impl.State{X: 7 * product}
			if rule == 1 {
				want = impl.State{Y: 7 * product}
			}
			next, ok := impl.Next(machineOf(numbers), impl.State{X: 3, Y: 5})
			if !ok || next != want {
				t.Errorf("number %d of rule %d: %v %v", i, rule, next, ok)
			}
		}
	}
	highest := machineOf(slices.Repeat([]int64{prime - 1}, 12))
	next, ok := impl.Next(highest, impl.State{X: prime - 1, Y: prime - 1})
	if !ok || next != (impl.State{X: prime - 2, Y: prime - 2}) {
		t.Errorf("all numbers the last element: %v %v", next, ok)
	}
}

func TestAMachineOfNoughtsLeadsToNought(t *testing.T) {
	for _, s := range someStates() {
		l, ok := impl.RunOf(impl.Machine{}, s, 3)
		if !ok || !slices.Equal(l, []impl.State{s, {}, {}, {}}) {
			t.Errorf("from %v: %v %v", s, l, ok)
		}
	}
}

func TestNextRefuses(t *testing.T) {
	for _, m := range noMachines() {
		for _, s := range append(someStates(), noStates()[:4]...) {
			if next, ok := impl.Next(m, s); ok || next != (impl.State{}) {
				t.Errorf("machine %v at %v: %v %v", m, s, next, ok)
			}
		}
	}
	for _, s := range noStates() {
		for _, m := range someMachines() {
			if next, ok := impl.Next(m, s); ok || next != (impl.State{}) {
				t.Errorf("machine %v at %v: %v %v", m, s, next, ok)
			}
		}
	}
}

func TestARunIsWhatComesNextAgainAndAgain(t *testing.T) {
	forRuns(func(m impl.Machine, s impl.State, what string) {
		want := runOf(m, s, 20)
		for n := range int64(21) {
			l, ok := impl.RunOf(m, s, n)
			if !ok || !slices.Equal(l, want[:n+1]) {
				t.Errorf("%s, %d steps: %v %v, wanted %v", what, n, l, ok, want[:n+1])
			}
			last, ok := impl.After(m, s, n)
			if !ok || last != want[n] {
				t.Errorf("%s, after %d steps: %v %v, wanted %v", what, n, last, ok, want[n])
			}
		}
	})
}

func TestRunsAtTheLimits(t *testing.T) {
	forRuns(func(m impl.Machine, s impl.State, what string) {
		if l, ok := impl.RunOf(m, s, 0); !ok || !slices.Equal(l, []impl.State{s}) {
			t.Errorf("%s, no step: %v %v", what, l, ok)
		}
		if last, ok := impl.After(m, s, 0); !ok || last != s {
			t.Errorf("%s, after no step: %v %v", what, last, ok)
		}
		want := runOf(m, s, impl.MaxSteps)
		for _, n := range []int64{impl.MaxSteps - 1, impl.MaxSteps} {
			if l, ok := impl.RunOf(m, s, n); !ok || !slices.Equal(l, want[:n+1]) {
				t.Errorf("%s, %d steps: %d states, %v", what, n, len(l), ok)
			}
			if last, ok := impl.After(m, s, n); !ok || last != want[n] {
				t.Errorf("%s, after %d steps: %v %v", what, n, last, ok)
			}
		}
		for _, n := range []int64{-1, -2, -impl.MaxSteps, math.MinInt64, impl.MaxSteps + 1, 2 * impl.MaxSteps, 1 << 32, math.MaxInt64} {
			wantNoRun(t, what, m, s, n)
		}
	})
}

func TestRunsRefuseWhatIsNotRight(t *testing.T) {
	for _, n := range []int64{-1, 0, 1, impl.MaxSteps, impl.MaxSteps + 1} {
		for _, m := range noMachines() {
			wantNoRun(t, fmt.Sprint("machine ", m), m, impl.State{X: 1, Y: 1}, n)
		}
		for _, s := range noStates() {
			wantNoRun(t, fmt.Sprint("from ", s), fib(), s, n)
			wantNoRun(t, fmt.Sprint("of noughts from ", s), impl.Machine{}, s, n)
		}
	}
}

func TestTwoPiecesOfARunAreOne(t *testing.T) {
	pieces := [][2]int64{{0, 0}, {0, 5}, {5, 0}, {1, 1}, {3, 4}, {17, 400}, {500, 500}, {impl.MaxSteps, 0}, {0, impl.MaxSteps}, {1, impl.MaxSteps - 1}}
	forRuns(func(m impl.Machine, s impl.State, what string) {
		for _, p := range pieces {
			whole, ok := impl.RunOf(m, s, p[0]+p[1])
			first, firstOk := impl.RunOf(m, s, p[0])
			if !ok || !firstOk || len(first) == 0 {
				t.Fatalf("%s: a piece of %v is refused", what, p)
			}
			middle, _ := impl.After(m, s, p[0])
			second, secondOk := impl.RunOf(m, middle, p[1])
			if !secondOk || len(second) == 0 || !slices.Equal(append(first, second[1:]...), whole) {
				t.Errorf("%s: pieces of %v are not one", what, p)
			}
			end, endOk := impl.After(m, middle, p[1])
			want, wantOk := impl.After(m, s, p[0]+p[1])
			if !endOk || !wantOk || end != want || end != whole[len(whole)-1] {
				t.Errorf("%s: pieces of %v lead to %v, both to %v", what, p, end, want)
			}
		}
	})
}

func TestEachPieceOfARunIsARun(t *testing.T) {
	forRuns(func(m impl.Machine, s impl.State, what string) {
		l := runOf(m, s, 12)
		for from := range l {
			for to := from + 1; to <= len(l); to++ {
				if !impl.TraceOk(m, l[from:to]) {
					t.Errorf("%s: states %d to %d are no run", what, from, to)
				}
			}
		}
	})
}

func TestTracesAtTheLimits(t *testing.T) {
	forRuns(func(m impl.Machine, s impl.State, what string) {
		long := runOf(m, s, impl.MaxSteps+1)
		if !impl.TraceOk(m, long[:impl.MaxSteps+1]) || !impl.TraceOk(m, long[1:]) {
			t.Errorf("%s: MaxSteps + 1 states are no run", what)
		}
		if impl.TraceOk(m, long) {
			t.Errorf("%s: MaxSteps + 2 states are a run", what)
		}
		if !impl.TraceOk(m, []impl.State{s}) {
			t.Errorf("%s: one state alone is no run", what)
		}
	})
	for _, m := range append(someMachines(), noMachines()...) {
		if impl.TraceOk(m, nil) || impl.TraceOk(m, []impl.State{}) {
			t.Errorf("machine %v: no states are a run", m)
		}
	}
	if impl.TraceOk(still(), make([]impl.State, 1<<16)) {
		t.Error("far too many states are a run")
	}
}

// changedStates are l with one state changed in all the ways at which a slip would show.
func changedStates(l []impl.State, place int) [][]impl.State {
	var out [][]impl.State
	add := func(x int64, y int64) {
		changed := slices.Clone(l)
		changed[place].X += x
		changed[place].Y += y
		out = append(out, changed)
	}
	add(1, 0)
	add(0, 1)
	add(-1, 0)
	add(0, -1)
	add(1, -1)
	// What is the same but for a multiple of Prime is no element.
	add(prime, 0)
	add(0, prime)
	add(-prime, 0)
	add(0, -prime)
	return append(out, slices.Insert(slices.Clone(l), place, l[place]), slices.Delete(slices.Clone(l), place, place+1))
}

// isTrace says without the program whether states are a run.
func isTrace(m impl.Machine, l []impl.State) bool {
	for i, s := range l {
		if s.X < 0 || s.X >= prime || s.Y < 0 || s.Y >= prime || i > 0 && s != nextOf(m, l[i-1]) {
			return false
		}
	}
	return len(l) > 0 && len(l) <= impl.MaxSteps+1
}

func TestStatesAreARunJustWhereEachIsWhatComesNext(t *testing.T) {
	forRuns(func(m impl.Machine, s impl.State, what string) {
		for _, n := range []int64{0, 1, 2, 7} {
			l := runOf(m, s, n)
			for place := range l {
				for _, changed := range changedStates(l, place) {
					if impl.TraceOk(m, changed) != isTrace(m, changed) {
						t.Errorf("%s: %v is said to be a run: %v", what, changed, !isTrace(m, changed))
					}
				}
			}
		}
	})
}

func TestALongRunWithOneWrongStateIsNone(t *testing.T) {
	m := machineOf([]int64{3, 1, 4, 1, 5, 9, 2, 6, 5, 3, 5, 8})
	l := runOf(m, impl.State{X: 2, Y: 7}, impl.MaxSteps)
	for _, place := range []int{0, 1, 500, impl.MaxSteps - 1, impl.MaxSteps} {
		for i, changed := range changedStates(l, place)[:9] {
			if impl.TraceOk(m, changed) {
				t.Errorf("change %d at place %d makes a run", i, place)
			}
		}
	}
}

func TestTraceOkRefusesWhatIsNotRight(t *testing.T) {
	one := impl.State{X: 1, Y: 1}
	for _, m := range noMachines() {
		if impl.TraceOk(m, []impl.State{one}) || impl.TraceOk(m, []impl.State{one, nextOf(m, one)}) || impl.TraceOk(m, []impl.State{{}, {}}) {
			t.Errorf("machine %v has a run", m)
		}
	}
	for _, s := range noStates() {
		if impl.TraceOk(fib(), []impl.State{s}) || impl.TraceOk(impl.Machine{}, []impl.State{s, {}}) || impl.TraceOk(still(), []impl.State{s, s}) {
			t.Errorf("%v begins a run", s)
		}
	}
}
