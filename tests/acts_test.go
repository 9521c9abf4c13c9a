package tests

import (
	"fmt"
	"math"
	"reflect"
	"slices"
	"strings"
	"testing"

	"loop.example/g00319/impl"
)

var noWorkers = []int64{0, -1, -9, impl.MaxWorkers + 1, impl.MaxWorkers + 2, 1 << 32, math.MinInt64, math.MaxInt64}

var noIds = []int64{0, -1, -3, latest + 1, latest + 2, 1 << 40, math.MinInt64, math.MaxInt64}

// wantForm says that an act has no right form, and that this is told ahead of all else but
// that the market is not right.
func wantForm(t *testing.T, what string, a impl.MAct) {
	t.Helper()
	for _, m := range []impl.Market{busyMarket(), emptyMarket(0, 1), emptyMarket(latest, latest, 1, 2, 3, 4, 5, 6, 7, 8, 9), {Next: 7, Jobs: plainJobs(6)}} {
		wantActed(t, what, m, a, impl.McForm, 0)
	}
	wantActed(t, what, emptyMarket(0, 0), a, impl.McWrong, 0)
}

// rightActs are one of each Kind that the busy market takes.
func rightActs() []impl.MAct {
	m := busyMarket()
	return []impl.MAct{submitOf(squares(), impl.State{X: 5, Y: 6}, 8, 3), leaseBy(3), honestReturn(m, 1, 3, 1), tickOf(2), cancelOf(19)}
}

func TestKindsThatAreNone(t *testing.T) {
	for _, kind := range []int64{0, 6, 7, 9, -1, -2, 1 << 32, 1<<32 + 2, math.MinInt64, math.MaxInt64} {
		wantForm(t, fmt.Sprint("kind ", kind, " alone"), impl.MAct{Kind: kind})
		for _, a := range rightActs() {
			a.Kind = kind
			wantForm(t, fmt.Sprint("kind ", kind, " with fields"), a)
		}
	}
}

// numberPlaces are all numbers in v, by name; v can be set.
func numberPlaces(name string, v reflect.Value) map[string]reflect.Value {
	out := map[string]reflect.Value{}
	if v.Kind() == reflect.Int64 {
		out[name] = v
	}
	if v.Kind() == reflect.Struct {
		for i := range v.NumField() {
			for inner, place := range numberPlaces(name+" "+v.Type().Field(i).Name, v.Field(i)) {
				out[inner] = place
			}
		}
	}
	return out
}

func TestFieldsThatAKindDoesNotName(t *testing.T) {
	asked := 0
	for _, a := range rightActs() {
		named := namedFields(a.Kind)
		for name := range numberPlaces("", reflect.ValueOf(&a).Elem()) {
			if strings.Contains(named, strings.Fields(name)[0]) {
				continue
			}
			for _, number := range []int64{1, 2, 4, -1, prime, math.MinInt64} {
				wrong := a
				numberPlaces("", reflect.ValueOf(&wrong).Elem())[name].SetInt(number)
				wantForm(t, fmt.Sprint("kind ", a.Kind, ", ", name, " is ", number), wrong)
				asked++
			}
		}
		for i := range 4 {
			for _, l := range [][]int64{{0}, {1}, {-1}, make([]int64, 8), make([]int64, 64)} {
				wrong := a
				*listsIn(&wrong.Proof)[i] = l
				if a.Kind != impl.MkReturn {
					wantForm(t, fmt.Sprint("kind ", a.Kind, ", list ", i, " is ", l), wrong)
				}
			}
		}
	}
	// 22 numbers beside the Kind: 4 by themselves, 12 and 2 of the machine and its start, 4 of the proof.
	wantNumber(t, "fields asked", int64(asked), 6*(22-16+22-1+22-7+22-1+22-1))
}

func TestAListWithoutAnythingIsNone(t *testing.T) {
	for _, a := range rightActs() {
		if a.Kind == impl.MkReturn {
			continue
		}
		_, code, told := modelActed(busyMarket(), a)
		for _, l := range listsIn(&a.Proof) {
			*l = make([]int64, 0, 8)
		}
		wantNumber(t, "code", code, impl.McDone)
		wantActed(t, fmt.Sprint("kind ", a.Kind, " with empty lists"), busyMarket(), a, code, told)
	}
}

func TestTheFormOfASubmit(t *testing.T) {
	one := impl.State{X: 1, Y: 1}
	for _, mach := range noMachines() {
		wantForm(t, "no machine", submitOf(mach, one, 4, 2))
	}
	for _, s := range noStates() {
		wantForm(t, "no start", submitOf(fib(), s, 4, 2))
	}
	for _, rows := range noRowCounts() {
		wantForm(t, fmt.Sprint(rows, " rows"), submitOf(fib(), one, rows, 2))
	}
	for _, many := range noParts {
		wantForm(t, fmt.Sprint(many, " tasks"), submitOf(fib(), one, 4, many))
	}
}

func TestTheFormOfTheOthers(t *testing.T) {
	p := proofFor(busyMarket().Jobs[0], 1)
	for _, worker := range noWorkers {
		wantForm(t, fmt.Sprint("a lease to ", worker), leaseBy(worker))
		wantForm(t, fmt.Sprint("a return by ", worker), returnBy(worker, 3, 1, p))
	}
	for _, id := range noIds {
		wantForm(t, fmt.Sprint("a return of job ", id), returnBy(1, id, 1, p))
		wantForm(t, fmt.Sprint("a cancel of job ", id), cancelOf(id))
	}
	for _, part := range []int64{-1, -8, 8, 9, 1 << 32, math.MinInt64, math.MaxInt64} {
		wantForm(t, fmt.Sprint("a return of part ", part), returnBy(1, 3, part, p))
	}
	for _, many := range []int64{0, -1, latest + 1, latest + 2, math.MinInt64, math.MaxInt64} {
		wantForm(t, fmt.Sprint("a tick of ", many), tickOf(many))
	}
}

func TestSubmit(t *testing.T) {
	for _, mach := range someMachines() {
		for _, s := range someStates() {
			n := wantActed(t, "a submit", emptyMarket(0, 1), submitOf(mach, s, 4, 2), impl.McDone, 1)
			if want := (impl.Job{Id: 1, Mach: mach, Start: s, Rows: 4, Tasks: make([]impl.Task, 2)}); n.Next != 2 || len(n.Jobs) != 1 || !sameJob(n.Jobs[0], want) {
				t.Errorf("submitted: %v, wanted %v", n, want)
			}
		}
	}
	for _, rows := range rowCounts {
		for many := int64(1); many <= 8; many++ {
			n := wantActed(t, "a submit", busyMarket(), submitOf(fib(), impl.State{}, rows, many), impl.McDone, 20)
			if n.Next != 21 || len(n.Jobs) != 5 || n.Jobs[4].Rows != rows || len(n.Jobs[4].Tasks) != int(many) || n.Jobs[4].Gone {
				t.Errorf("%d rows, %d tasks: %v", rows, many, n)
			}
		}
	}
}

func TestAFullMarket(t *testing.T) {
	submit := submitOf(fib(), impl.State{X: 1, Y: 1}, 2, 1)
	m := emptyMarket(7, 1)
	for id := int64(1); id <= 6; id++ {
		m = wantActed(t, "a submit", m, submit, impl.McDone, id)
	}
	wantActed(t, "a seventh", m, submit, impl.McFull, 0)
	for id := int64(1); id <= 6; id++ {
		// What is gone or done has its place still.
		if id%2 == 0 {
			m = wantActed(t, "a cancel", m, cancelOf(id), impl.McDone, 0)
		} else {
			m = wantActed(t, "a lease", m, leaseBy(1), impl.McDone, 100*id)
			m = wantActed(t, "a return", m, honestReturn(m, 1, id, 0), impl.McDone, 1)
		}
		wantActed(t, "a seventh", m, submit, impl.McFull, 0)
	}
}

func TestTheLastId(t *testing.T) {
	submit := submitOf(fib(), impl.State{X: 1, Y: 1}, 2, 8)
	m := wantActed(t, "the last Id", emptyMarket(0, latest-1), submit, impl.McDone, latest-1)
	wantNumber(t, "Next", m.Next, latest)
	wantActed(t, "no Id is left", m, submit, impl.McFull, 0)
	wantActed(t, "no Id is left, no job", emptyMarket(0, latest), submit, impl.McFull, 0)
	wantActed(t, "the highest Id that may be named", m, cancelOf(latest), impl.McNone, 0)
	wantActed(t, "the highest Id that may be named", m, returnBy(1, latest, 7, impl.Proof{}), impl.McNone, 0)
	for i := range int64(8) {
		m = wantActed(t, "a lease", m, leaseBy(i+1), impl.McDone, 100*(latest-1)+i)
	}
	wantActed(t, "nothing is left", m, leaseBy(9), impl.McNone, 0)
	wantActed(t, "a cancel", m, cancelOf(latest-1), impl.McDone, 0)
}

func TestLeasesGoByJobAndPlace(t *testing.T) {
	m := busyMarket()
	for i, told := range []int64{302, 303, 1900, 1903} {
		worker := []int64{7, 3, 6, 4}[i]
		m = wantActed(t, "a lease", m, leaseBy(worker), impl.McDone, told)
		if got := m.Jobs[jobAt(m, told/100)].Tasks[told%100]; got != leasedTo(worker, 105) {
			t.Errorf("leased is %v", got)
		}
	}
	for worker := int64(1); worker <= 9; worker++ {
		// All have one, though 1905 is free still, or are banned.
		code := int64(impl.McBusy)
		if worker == 2 || worker == 5 {
			code = impl.McBanned
		}
		wantActed(t, "a lease more", m, leaseBy(worker), code, 0)
	}
	m.Jobs[0].Tasks[0], m.Jobs[0].Tasks[1] = free(), free()
	wantActed(t, "the first place of all", m, leaseBy(1), impl.McDone, 300)
}

func TestNoLease(t *testing.T) {
	for worker := int64(1); worker <= 9; worker++ {
		wantActed(t, "an empty market", emptyMarket(0, 1), leaseBy(worker), impl.McNone, 0)
	}
	m := busyMarket()
	m.Jobs = m.Jobs[1:3]
	wantActed(t, "free tasks of a gone job alone", m, leaseBy(3), impl.McNone, 0)
	wantActed(t, "banned ahead of none", m, leaseBy(2), impl.McBanned, 0)
	m = busyMarket()
	m.Jobs = m.Jobs[:1]
	m.Jobs[0].Tasks = m.Jobs[0].Tasks[:2]
	wantActed(t, "none", m, leaseBy(3), impl.McNone, 0)
	wantActed(t, "busy ahead of none", m, leaseBy(1), impl.McBusy, 0)
	wantActed(t, "banned ahead of none", m, leaseBy(5), impl.McBanned, 0)
	// The task that the worker has is in a later job than the free one, and in an earlier one.
	wantActed(t, "busy in a later job", busyMarket(), leaseBy(9), impl.McBusy, 0)
	wantActed(t, "busy in an earlier job", busyMarket(), leaseBy(1), impl.McBusy, 0)
}

func TestALeaseAtTheTickAtWhichItsTimeHasCome(t *testing.T) {
	for _, now := range []int64{0, 1, 77, latest - 5, latest - 6} {
		m := emptyMarket(now, 1)
		m = wantActed(t, "a submit", m, submitOf(fib(), impl.State{X: 1, Y: 1}, 4, 1), impl.McDone, 1)
		m = wantActed(t, "a lease", m, leaseBy(1), impl.McDone, 100)
		if m.Jobs[0].Tasks[0] != leasedTo(1, now+5) {
			t.Fatalf("leased at %d: %v", now, m)
		}
		for many := int64(1); many <= 4; many++ {
			early := wantActed(t, "a tick", m, tickOf(many), impl.McDone, 0)
			wantActed(t, "not yet", early, leaseBy(1), impl.McBusy, 0)
			wantActed(t, "not yet", early, leaseBy(2), impl.McNone, 0)
			wantActed(t, "still in time", early, honestReturn(early, 1, 1, 0), impl.McDone, 1)
			wantActed(t, "still in time", early, returnBy(1, 1, 0, impl.Proof{}), impl.McBad, 0)
			wantOver(t, wantActed(t, "the rest", early, tickOf(5-many), impl.McDone, 0))
		}
		for _, many := range []int64{5, 6, 7, latest} {
			wantOver(t, wantActed(t, "a tick", m, tickOf(many), impl.McDone, 0))
		}
	}
}

// wantOver says of a market with one job, whose task worker 1 had, that the lease is over.
func wantOver(t *testing.T, m impl.Market) {
	t.Helper()
	if m.Jobs[0].Tasks[0] != free() {
		t.Fatalf("leased still: %v", m)
	}
	wantActed(t, "too late, though well proved", m, honestReturn(m, 1, 1, 0), impl.McLate, 0)
	wantActed(t, "too late to be banned", m, returnBy(1, 1, 0, impl.Proof{}), impl.McLate, 0)
	wantActed(t, "another one", m, leaseBy(2), impl.McDone, 100)
	wantActed(t, "the same one", m, leaseBy(1), impl.McDone, 100)
}

func TestTicksAtTheEndOfTime(t *testing.T) {
	for _, now := range []int64{0, latest - 6, latest - 5, latest - 4, latest - 1, latest} {
		for _, due := range []int64{1, 3, 5} {
			m := impl.Market{Now: now, Next: 2, Jobs: plainJobs(1)}
			m.Jobs[0].Tasks[0] = leasedTo(9, now+due)
			for _, many := range []int64{1, 2, 3, 4, 5, 6, 7, latest - 1, latest} {
				n := wantActed(t, "a tick", m, tickOf(many), impl.McDone, 0)
				wantNumber(t, fmt.Sprint(now, " and ", many), n.Now, min(latest, now+many))
				if isFree := n.Jobs[0].Tasks[0] == free(); isFree != (now+due <= n.Now) {
					t.Errorf("Now %d, Due %d, a tick of %d: %v", now, now+due, many, n)
				}
			}
		}
	}
	m := wantActed(t, "a lease at the end of time", impl.Market{Now: latest, Next: 2, Jobs: plainJobs(1)}, leaseBy(1), impl.McDone, 100)
	if m.Jobs[0].Tasks[0] != leasedTo(1, latest+5) {
		t.Errorf("leased at the end of time: %v", m)
	}
}

func TestATickFreesJustWhatIsDue(t *testing.T) {
	for many := int64(1); many <= 6; many++ {
		m := busyMarket()
		n := wantActed(t, "a tick", m, tickOf(many), impl.McDone, 0)
		want := copyMarket(m)
		want.Now = 100 + many
		want.Jobs[0].Tasks[1] = free()
		if many >= 3 {
			want.Jobs[3].Tasks[4] = free()
		}
		if many >= 5 {
			want.Jobs[3].Tasks[1] = free()
		}
		if !sameMarket(n, want) {
			t.Errorf("a tick of %d: %v, wanted %v", many, n, want)
		}
	}
}

func TestCancel(t *testing.T) {
	m := busyMarket()
	for _, id := range []int64{1, 2, 4, 6, 18, 20, 21, latest} {
		wantActed(t, fmt.Sprint("job ", id), m, cancelOf(id), impl.McNone, 0)
	}
	wantActed(t, "a gone one", m, cancelOf(7), impl.McLate, 0)
	wantActed(t, "a done one", m, cancelOf(12), impl.McLate, 0)
	n := wantActed(t, "the long one", m, cancelOf(19), impl.McDone, 0)
	want := copyMarket(m)
	want.Jobs[3].Gone = true
	want.Jobs[3].Tasks[1], want.Jobs[3].Tasks[4] = free(), free()
	if !sameMarket(n, want) {
		t.Errorf("cancelled: %v, wanted %v", n, want)
	}
	wantActed(t, "again", n, cancelOf(19), impl.McLate, 0)
	wantActed(t, "what was leased comes too late", n, honestReturn(n, 9, 19, 1), impl.McLate, 0)
	wantActed(t, "who had a task of it has none", n, leaseBy(9), impl.McDone, 302)
	n = wantActed(t, "the first one", n, cancelOf(3), impl.McDone, 0)
	wantActed(t, "nothing is left", n, leaseBy(1), impl.McNone, 0)
	last := impl.Market{Now: latest, Next: 2, Jobs: plainJobs(1)}
	last.Jobs[0].Tasks[0] = leasedTo(3, latest+5)
	wantActed(t, "at the end of time", last, cancelOf(1), impl.McDone, 0)
}

// badProofs are those that are not the right one for the part 1 of the first job of the busy
// market: of other rows, another start, another machine, or changed.
func badProofs(j impl.Job) map[string]impl.Proof {
	right := proofFor(j, 1)
	begin := stateAt(j, 1)
	out := map[string]impl.Proof{"nothing": {}, "states alone": {Start: right.Start, End: right.End}, "the part ahead": proofFor(j, 0), "the part behind": proofFor(j, 2)}
	for _, rows := range rowCounts {
		if rows != j.Rows {
			p, _ := provedWith(j.Mach, runOf(j.Mach, begin, rows-1), rows-1)
			out[fmt.Sprint(rows, " rows")] = p
		}
	}
	for _, s := range otherStates(begin) {
		p, _ := provedWith(j.Mach, runOf(j.Mach, s, j.Rows-1), j.Rows-1)
		out[fmt.Sprint("from ", s)] = p
		forged := copyOf(right)
		forged.Start = s
		out[fmt.Sprint("another Start ", s)] = forged
	}
	for _, mach := range []impl.Machine{still(), squares(), {}} {
		p, _ := provedWith(mach, runOf(mach, begin, j.Rows-1), j.Rows-1)
		out[fmt.Sprint("of ", mach)] = p
	}
	for i := range 4 {
		for name, a := range map[string]int64{"one more": mod((*listsIn(&right)[i])[3] + 1), "no element": -1} {
			forged := copyOf(right)
			(*listsIn(&forged)[i])[3] = a
			out[fmt.Sprint("list ", i, " has ", name)] = forged
		}
		forged := copyOf(right)
		*listsIn(&forged)[i] = nil
		out[fmt.Sprint("list ", i, " is none")] = forged
	}
	forged := copyOf(right)
	forged.End.Y = mod(forged.End.Y + 1)
	out["another End"] = forged
	return out
}

func TestABadProof(t *testing.T) {
	m := busyMarket()
	want := copyMarket(m)
	want.Banned = []int64{1, 2, 5}
	want.Jobs[0].Tasks[1] = free()
	for name, p := range badProofs(m.Jobs[0]) {
		n := wantActed(t, name, m, returnBy(1, 3, 1, p), impl.McBad, 0)
		if !sameMarket(n, want) {
			t.Fatalf("%s: %v, wanted %v", name, n, want)
		}
		wantActed(t, name+", no lease", n, leaseBy(1), impl.McBanned, 0)
		wantActed(t, name+", and then the right one", n, honestReturn(n, 1, 3, 1), impl.McBanned, 0)
		wantActed(t, name+", another worker", n, leaseBy(3), impl.McDone, 301)
		wantActed(t, name+", too late", m, returnBy(3, 3, 1, p), impl.McLate, 0)
	}
	wantActed(t, "the right one", m, honestReturn(m, 1, 3, 1), impl.McDone, 0)
}

func TestWhoIsBannedStandsInOrder(t *testing.T) {
	for _, order := range [][]int64{{1, 2, 3, 4, 5, 6, 7, 8, 9}, {9, 8, 7, 6, 5, 4, 3, 2, 1}, {5, 9, 1, 7, 3, 8, 2, 6, 4}} {
		m := wantActed(t, "a submit", emptyMarket(0, 1), submitOf(fib(), impl.State{X: 1, Y: 1}, 4, 2), impl.McDone, 1)
		for i, worker := range order {
			m = wantActed(t, "a lease", m, leaseBy(worker), impl.McDone, 100)
			m = wantActed(t, "a bad proof", m, returnBy(worker, 1, 0, impl.Proof{}), impl.McBad, 0)
			wantList(t, "banned", m.Banned, slices.Sorted(slices.Values(order[:i+1])))
		}
		for _, worker := range order {
			wantActed(t, "nobody is left", m, leaseBy(worker), impl.McBanned, 0)
		}
	}
}

func TestReturnsOfWhatIsNotThere(t *testing.T) {
	m := busyMarket()
	p := proofFor(m.Jobs[0], 1)
	for _, worker := range []int64{1, 3, 9} {
		for _, id := range []int64{1, 2, 4, 18, 20, latest} {
			wantActed(t, "no such job", m, returnBy(worker, id, 1, p), impl.McNone, 0)
			wantActed(t, "no such job", m, returnBy(worker, id, 0, impl.Proof{}), impl.McNone, 0)
		}
		for _, at := range [][2]int64{{3, 4}, {3, 7}, {7, 2}, {12, 1}, {12, 7}} {
			wantActed(t, "no such part", m, returnBy(worker, at[0], at[1], p), impl.McNone, 0)
		}
		for _, at := range [][2]int64{{3, 0}, {3, 2}, {3, 3}, {7, 0}, {7, 1}, {12, 0}, {19, 0}, {19, 2}, {19, 7}} {
			// Done, free, gone, or another's: the right proof does not help, and a bad one does no harm.
			wantActed(t, "not leased", m, honestReturn(m, worker, at[0], at[1]), impl.McLate, 0)
			wantActed(t, "not leased", m, returnBy(worker, at[0], at[1], impl.Proof{}), impl.McLate, 0)
		}
	}
	wantActed(t, "another's", m, honestReturn(m, 9, 3, 1), impl.McLate, 0)
	wantActed(t, "another's", m, honestReturn(m, 1, 19, 1), impl.McLate, 0)
	wantActed(t, "a part beside the one that is leased", m, honestReturn(m, 9, 19, 4), impl.McLate, 0)
}

func TestBannedIsToldAheadOfAllThatAReturnTells(t *testing.T) {
	m := busyMarket()
	for _, worker := range []int64{2, 5} {
		for _, a := range []impl.MAct{
			honestReturn(m, worker, 3, 1), returnBy(worker, 3, 1, impl.Proof{}), returnBy(worker, 1, 1, impl.Proof{}),
			returnBy(worker, 3, 7, impl.Proof{}), honestReturn(m, worker, 12, 0), returnBy(worker, latest, 0, impl.Proof{}),
		} {
			wantActed(t, "a banned one returns", m, a, impl.McBanned, 0)
		}
	}
}

func TestTheLastReturnTellsOne(t *testing.T) {
	for _, rows := range rowCounts {
		for many := int64(1); many <= 8; many++ {
			m := wantActed(t, "a submit", emptyMarket(3, 5), submitOf(fib(), impl.State{X: 1, Y: 2}, rows, many), impl.McDone, 5)
			for i := range many {
				m = wantActed(t, "a lease", m, leaseBy(i+1), impl.McDone, 500+i)
			}
			for i := range many {
				// From the last place to the first: no part has to wait for another.
				part, told := many-1-i, int64(0)
				if i == many-1 {
					told = 1
				}
				m = wantActed(t, "a return", m, honestReturn(m, part+1, 5, part), impl.McDone, told)
				wantActed(t, "again", m, honestReturn(m, part+1, 5, part), impl.McLate, 0)
				wantAsked(t, "on the way", m)
			}
			wantActed(t, "nothing is left", m, leaseBy(1), impl.McNone, 0)
		}
	}
}

// TestAPartThatBeginsWhereAnotherDoes: what is asked of a proof is where it begins, not of which
// part it was made.
func TestAPartThatBeginsWhereAnotherDoes(t *testing.T) {
	m := wantActed(t, "a submit", emptyMarket(0, 1), submitOf(still(), impl.State{X: 4, Y: 4}, 4, 3), impl.McDone, 1)
	first := proofFor(m.Jobs[0], 0)
	for part := range int64(3) {
		m = wantActed(t, "a lease", m, leaseBy(1), impl.McDone, 100+part)
		told := int64(0)
		if part == 2 {
			told = 1
		}
		m = wantActed(t, "the same proof", m, returnBy(1, 1, part, first), impl.McDone, told)
	}
}

func TestTheHighestOfTheField(t *testing.T) {
	highest := machineOf(slices.Repeat([]int64{prime - 1}, 12))
	m := wantActed(t, "a submit", emptyMarket(0, 1), submitOf(highest, impl.State{X: prime - 1, Y: prime - 1}, 16, 8), impl.McDone, 1)
	for part := range int64(8) {
		m = wantActed(t, "a lease", m, leaseBy(9-part), impl.McDone, 100+part)
	}
	for part := range int64(8) {
		_, code, told := modelActed(m, honestReturn(m, 9-part, 1, part))
		m = wantActed(t, "a return", m, honestReturn(m, 9-part, 1, part), code, told)
		wantNumber(t, "code", code, impl.McDone)
	}
	wantAsked(t, "done", m)
}
