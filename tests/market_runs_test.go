package tests

import (
	"fmt"
	"math"
	"runtime"
	"slices"
	"testing"

	"loop.example/g00319/impl"
)

func wantNoStatus(t *testing.T, what string, m impl.Market, id int64) {
	t.Helper()
	if a, b, ok := impl.StatusOf(m, id); ok || a != 0 || b != 0 {
		t.Errorf("%s: status of %d: %d %d %v", what, id, a, b, ok)
	}
}

func wantNoCalm(t *testing.T, what string, m impl.Market, worker int64) {
	t.Helper()
	if n, ok := impl.Calmed(m, worker); ok || !sameMarket(n, impl.Market{}) {
		t.Errorf("%s: calmed by %d: %v %v", what, worker, n, ok)
	}
}

// wantAsked holds what is said of each job of a market against what is reckoned here.
func wantAsked(t *testing.T, what string, m impl.Market) {
	t.Helper()
	asked := []int64{0, -1, 1, 2, m.Next, m.Next + 1, latest, math.MinInt64, math.MaxInt64}
	for _, j := range m.Jobs {
		asked = append(asked, j.Id, j.Id-1, j.Id+1)
	}
	for _, id := range asked {
		c, ok := impl.ResultOf(m, id)
		place := jobAt(m, id)
		if place < 0 || !marketRight(m) {
			wantNoStatus(t, what, m, id)
			wantNoClaim(t, what, c, ok)
			continue
		}
		j := m.Jobs[place]
		undone := int64(0)
		eachTask(impl.Market{Jobs: m.Jobs[place : place+1]}, func(t *impl.Task) {
			if !t.Done {
				undone++
			}
		})
		many := int64(len(j.Tasks))
		if a, b, ok := impl.StatusOf(m, id); !ok || a != many-undone || b != many {
			t.Errorf("%s: status of %d: %d %d %v, wanted %d %d", what, id, a, b, ok, many-undone, many)
		}
		if undone > 0 {
			wantNoClaim(t, what, c, ok)
			continue
		}
		steps := many * (j.Rows - 1)
		if want := (impl.Claim{Start: j.Start, End: runOf(j.Mach, j.Start, steps)[steps], Steps: steps}); !ok || c != want || !impl.Holds(j.Mach, c) {
			t.Errorf("%s: result of %d: %v %v, wanted %v", what, id, c, ok, want)
		}
	}
}

// upTo is a number 0 .. n - 1.
func (s *series) upTo(n int64) int64 { return s.element() % n }

// leasedPlaces are the Ids, places and workers of all leased tasks.
func leasedPlaces(m impl.Market) [][3]int64 {
	var out [][3]int64
	for _, j := range m.Jobs {
		for i, t := range j.Tasks {
			if t.Worker != 0 {
				out = append(out, [3]int64{j.Id, int64(i), t.Worker})
			}
		}
	}
	return out
}

// anyReturn is of a task that is leased, if there is one: mostly well proved.
func (s *series) anyReturn(m impl.Market) impl.MAct {
	leased := leasedPlaces(m)
	if len(leased) == 0 || s.upTo(8) == 0 {
		return returnBy(1+s.upTo(9), 1+s.upTo(m.Next+1), s.upTo(8), impl.Proof{})
	}
	at := leased[s.upTo(int64(len(leased)))]
	a := honestReturn(m, at[2], at[0], at[1])
	switch s.upTo(12) {
	case 0:
		a.Proof = impl.Proof{}
	case 1:
		l := *listsIn(&a.Proof)[s.upTo(4)]
		place := s.upTo(int64(len(l)))
		l[place] = mod(l[place] + 1 + s.upTo(prime-1))
	case 2:
		a.Proof = honestReturn(m, at[2], at[0], (at[1]+1)%8).Proof
	case 3:
		a.Worker = 1 + s.upTo(9)
	}
	return a
}

func (s *series) anyAct(m impl.Market) impl.MAct {
	machines := someMachines()
	switch s.upTo(24) {
	case 0, 1, 2:
		return submitOf(machines[s.upTo(int64(len(machines)))], s.state(), rowCounts[s.upTo(4)], 1+s.upTo(8))
	case 3, 4:
		return tickOf(1 + s.upTo(3))
	case 5:
		return tickOf(1 + s.upTo(9))
	case 6:
		if s.upTo(3) == 0 {
			return cancelOf(1 + s.upTo(m.Next+1))
		}
		return tickOf(1)
	case 7:
		return impl.MAct{Kind: s.upTo(8), Worker: s.upTo(3), Id: s.upTo(2)}
	case 8, 9, 10, 11, 12, 13:
		return leaseBy(1 + s.upTo(9))
	}
	return s.anyReturn(m)
}

// wantKept says of an act what the market promises: what is done stays done, and only an accepted
// proof makes it so; who is banned stays so, by a bad proof alone, and has nothing leased.
func wantKept(t *testing.T, what string, before impl.Market, a impl.MAct, code int64, after impl.Market) {
	t.Helper()
	for i, j := range before.Jobs {
		now := after.Jobs[i]
		if now.Id != j.Id || now.Mach != j.Mach || now.Start != j.Start || now.Rows != j.Rows || len(now.Tasks) != len(j.Tasks) || j.Gone && !now.Gone {
			t.Fatalf("%s: job %v has become %v", what, j, now)
		}
		for k, was := range j.Tasks {
			is := now.Tasks[k]
			if was.Done && !is.Done {
				t.Fatalf("%s: what was done is not any more", what)
			}
			begun := stateAt(j, int64(k))
			accepted := code == impl.McDone && a.Kind == impl.MkReturn && a.Id == j.Id && a.Part == int64(k) && a.Worker == was.Worker && a.Proof.Start == begun && impl.RowsOf(a.Proof) == j.Rows && impl.Accepted(j.Mach, a.Proof)
			if !was.Done && is.Done && !accepted {
				t.Fatalf("%s: done without a proof", what)
			}
		}
	}
	for _, worker := range before.Banned {
		if !slices.Contains(after.Banned, worker) {
			t.Fatalf("%s: %d is not banned any more", what, worker)
		}
	}
	if added := len(after.Banned) - len(before.Banned); added > 1 || (added == 1) != (code == impl.McBad) || added == 1 && !slices.Contains(after.Banned, a.Worker) {
		t.Fatalf("%s: banned were %v and are %v, code %d", what, before.Banned, after.Banned, code)
	}
	for _, at := range leasedPlaces(after) {
		if slices.Contains(after.Banned, at[2]) {
			t.Fatalf("%s: leased to %d, who is banned", what, at[2])
		}
	}
}

// walk makes so many acts from a market, and counts the codes.
func walk(t *testing.T, m impl.Market, s *series, many int, codes map[int64]int) {
	t.Helper()
	for i := range many {
		a := s.anyAct(m)
		what := fmt.Sprint("act ", i, " of kind ", a.Kind)
		_, code, told := modelActed(m, a)
		n := wantActed(t, what, m, a, code, told)
		wantKept(t, what, m, a, code, n)
		wantAsked(t, what, n)
		if i%10 == 0 {
			for worker := int64(0); worker <= 10; worker++ {
				wantCalm(t, what, n, worker)
			}
		}
		codes[code]++
		m = n
	}
}

func TestWalksThroughTheMarket(t *testing.T) {
	codes := map[int64]int{}
	for seed := range 25 {
		s := series(1000 + seed)
		walk(t, emptyMarket(0, 1), &s, 60, codes)
		walk(t, busyMarket(), &s, 60, codes)
		walk(t, emptyMarket(latest-s.upTo(30), latest-s.upTo(6), 1+s.upTo(4), 5+s.upTo(5)), &s, 60, codes)
	}
	for _, code := range []int64{impl.McDone, impl.McForm, impl.McFull, impl.McNone, impl.McBanned, impl.McBusy, impl.McBad, impl.McLate} {
		if codes[code] < 10 {
			t.Errorf("code %d was told %d times only", code, codes[code])
		}
	}
}

// calmRight is whether there is a calm, and the market behind it, reckoned without the program:
// all leases are over, and whatever is not done is then, but for what is gone.
func calmRight(m impl.Market, worker int64) (impl.Market, bool) {
	if !marketRight(m) || !between(worker, 1, 9) || slices.Contains(m.Banned, worker) || m.Now > latest-10 {
		return impl.Market{}, false
	}
	n := copyMarket(m)
	n.Now += 5
	for i, j := range n.Jobs {
		for k := range j.Tasks {
			if !j.Gone {
				n.Jobs[i].Tasks[k] = done()
			}
		}
	}
	return n, true
}

// calmByActs is the calm in single acts, as the document tells it.
func calmByActs(t *testing.T, m impl.Market, worker int64) impl.Market {
	t.Helper()
	m, code, told := impl.Acted(m, tickOf(impl.Term))
	for code == impl.McDone {
		if m, code, told = impl.Acted(m, leaseBy(worker)); code != impl.McDone {
			break
		}
		j := m.Jobs[jobAt(m, told/100)]
		p, _ := impl.Proved(j.Mach, stateAt(j, told%100), j.Rows)
		m, code, _ = impl.Acted(m, returnBy(worker, told/100, told%100, p))
	}
	wantNumber(t, "the code at the end of a calm", code, impl.McNone)
	return m
}

func wantCalm(t *testing.T, what string, m impl.Market, worker int64) {
	t.Helper()
	want, wantOk := calmRight(m, worker)
	if !wantOk {
		wantNoCalm(t, what, m, worker)
		return
	}
	n, ok := impl.Calmed(m, worker)
	if !ok || !sameMarket(n, want) || !impl.MarketOk(n) {
		t.Fatalf("%s: calmed by %d: %v %v, wanted %v", what, worker, n, ok, want)
	}
	if byActs := calmByActs(t, m, worker); !sameMarket(byActs, want) {
		t.Fatalf("%s: calmed by %d in single acts: %v, wanted %v", what, worker, byActs, want)
	}
	for _, j := range n.Jobs {
		if c, ok := impl.ResultOf(n, j.Id); ok == j.Gone || ok && !impl.Holds(j.Mach, c) {
			t.Fatalf("%s: calmed by %d: the result of %d is %v %v", what, worker, j.Id, c, ok)
		}
	}
}

// fullMarket has all the jobs and tasks that there may be, of one number of rows.
func fullMarket(rows int64) impl.Market {
	s := series(101)
	m := impl.Market{Now: 3, Next: 1000, Banned: []int64{4}}
	for i := range int64(6) {
		m.Jobs = append(m.Jobs, impl.Job{Id: 10*i + 9, Mach: machineOf(s.list(12)), Start: s.state(), Rows: rows, Tasks: make([]impl.Task, 8)})
	}
	return m
}

func TestACalm(t *testing.T) {
	for worker := int64(-1); worker <= 11; worker++ {
		wantCalm(t, "the busy market", busyMarket(), worker)
		wantCalm(t, "an empty market", emptyMarket(0, 1), worker)
		wantCalm(t, "banned at both ends", emptyMarket(0, 1, 1, 9), worker)
	}
	for _, worker := range noWorkers {
		wantNoCalm(t, "no worker", busyMarket(), worker)
	}
	for _, rows := range rowCounts {
		wantCalm(t, "a full market", fullMarket(rows), 9)
	}
	gone := fullMarket(4)
	for i := range gone.Jobs {
		gone.Jobs[i].Gone = true
	}
	wantCalm(t, "all is gone", gone, 1)
}

func TestACalmAtTheEndOfTime(t *testing.T) {
	for _, now := range []int64{0, 1, latest - 11, latest - 10, latest - 9, latest - 8, latest - 5, latest - 1, latest} {
		m := impl.Market{Now: now, Next: 2, Jobs: plainJobs(1)}
		m.Jobs[0].Tasks[0] = leasedTo(9, now+5)
		for _, worker := range []int64{1, 9} {
			n, ok := impl.Calmed(m, worker)
			if ok != (now <= latest-10) || ok && n.Now != now+5 {
				t.Errorf("Now %d: %v %v", now, n, ok)
			}
			wantCalm(t, fmt.Sprint("Now ", now), m, worker)
		}
	}
}

func TestACalmIsTheSameHoweverOften(t *testing.T) {
	m := fullMarket(16)
	want, _ := calmRight(m, 2)
	answers := make(chan impl.Market)
	for range 8 {
		go func() {
			n, _ := impl.Calmed(m, 2)
			answers <- n
		}()
	}
	for range 8 {
		if n := <-answers; !sameMarket(n, want) {
			t.Error("another answer beside others")
		}
	}
}

// TestACalmLeavesNobodyBehind: whoever worked for it has gone when it answers.
func TestACalmLeavesNobodyBehind(t *testing.T) {
	before := runtime.NumGoroutine()
	for range 200 {
		impl.Calmed(emptyMarket(0, 1), 1)
		impl.Calmed(busyMarket(), 1)
		impl.Calmed(busyMarket(), 2)
	}
	// One that has said it is done may need a moment to be gone.
	for turn := 0; turn < 1000000 && runtime.NumGoroutine() > before; turn++ {
		runtime.Gosched()
	}
	if after := runtime.NumGoroutine(); after > before {
		t.Errorf("%d goroutines before, %d behind", before, after)
	}
}

func TestResultsThatAreKnown(t *testing.T) {
	m := wantActed(t, "a submit", emptyMarket(0, 1), submitOf(fib(), impl.State{X: 1, Y: 1}, 4, 3), impl.McDone, 1)
	n, ok := impl.Calmed(m, 1)
	c, also := impl.ResultOf(n, 1)
	if want := (impl.Claim{Start: impl.State{X: 1, Y: 1}, End: impl.State{X: 55, Y: 89}, Steps: 9}); !ok || !also || c != want {
		t.Errorf("nine steps: %v %v %v", c, ok, also)
	}
	if a, b, ok := impl.StatusOf(n, 1); a != 3 || b != 3 || !ok {
		t.Errorf("three are done: %d %d %v", a, b, ok)
	}
	if a, b, ok := impl.StatusOf(m, 1); a != 0 || b != 3 || !ok {
		t.Errorf("none is done: %d %d %v", a, b, ok)
	}
}
