package tests

import (
	"fmt"
	"slices"
	"testing"

	"loop.example/g00319/impl"
)

// watchedMarket is a market with room behind each of its lists, all of which is watched.
type watchedMarket struct {
	banned *guarded[int64]
	tasks  []*guarded[impl.Task]
	jobs   []impl.Job
	was    []impl.Job
	m      impl.Market
}

func watch(m impl.Market) *watchedMarket {
	w := &watchedMarket{m: m, banned: guard(m.Banned)}
	w.m.Banned = w.banned.list()
	for _, j := range m.Jobs {
		g := guardWith(j.Tasks, impl.Task{Worker: spare, Due: spare})
		j.Tasks = g.list()
		w.tasks = append(w.tasks, g)
		w.jobs = append(w.jobs, j)
	}
	for range impl.MaxJobs + 2 {
		w.jobs = append(w.jobs, impl.Job{Id: spare})
	}
	w.m.Jobs = w.jobs[:len(m.Jobs)]
	w.was = slices.Clone(w.jobs)
	return w
}

// sameList says whether both are one list, not only alike.
func sameList(a []impl.Task, b []impl.Task) bool {
	return len(a) == len(b) && cap(a) == cap(b) && (cap(a) == 0 || &a[:1][0] == &b[:1][0])
}

func (w *watchedMarket) touched() bool {
	for i, j := range w.jobs {
		if !sameList(j.Tasks, w.was[i].Tasks) || !sameJob(j, w.was[i]) {
			return true
		}
	}
	return w.banned.touched() || slices.ContainsFunc(w.tasks, (*guarded[impl.Task]).touched)
}

// scribbleMarket fills each list of a market and the room behind it with a number of its own,
// and says whether each has kept its number: else two of them share memory.
func scribbleMarket(m impl.Market) bool {
	ok := scribbleOver([][]int64{m.Banned})
	for i, j := range m.Jobs {
		for k := range j.Tasks[:cap(j.Tasks)] {
			j.Tasks[:cap(j.Tasks)][k] = impl.Task{Worker: scribble, Due: int64(scribble - i)}
		}
	}
	for i, j := range m.Jobs {
		for _, t := range j.Tasks[:cap(j.Tasks)] {
			ok = ok && t.Due == int64(scribble-i)
		}
	}
	for i := range m.Jobs[:cap(m.Jobs)] {
		m.Jobs[:cap(m.Jobs)][i] = impl.Job{Id: scribble}
	}
	return ok
}

// checkMarketCall asks three times for a market, writes over the first answer, and watches
// whether this is to be seen anywhere.
func checkMarketCall(t *testing.T, what string, w *watchedMarket, call func(m impl.Market) impl.Market) {
	t.Helper()
	first := call(w.m)
	kept := copyMarket(first)
	if w.touched() {
		t.Fatalf("%s: an argument is written into", what)
	}
	second := call(w.m)
	if !scribbleMarket(first) {
		t.Fatalf("%s: two lists of the answer share memory", what)
	}
	if w.touched() {
		t.Fatalf("%s: the answer shares memory with an argument", what)
	}
	if !sameMarket(second, kept) || !sameMarket(call(w.m), kept) {
		t.Fatalf("%s: another answer when the first was written over", what)
	}
}

// watchedMarkets are right ones and wrong ones.
func watchedMarkets() map[string]impl.Market {
	out := map[string]impl.Market{"busy": busyMarket(), "empty": emptyMarket(0, 1), "full": fullMarket(4), "nothing": {}, "all banned": emptyMarket(0, 1, 1, 2, 3, 4, 5, 6, 7, 8, 9)}
	for _, c := range slices.Concat(bannedCases(), jobCases(), goneCases(), lateCases()) {
		out[c.what] = c.m
	}
	return out
}

func TestActedWritesNothingAndSharesNothing(t *testing.T) {
	for name, m := range watchedMarkets() {
		w := watch(m)
		for i, a := range append(someActs(), honestReturn(busyMarket(), 9, 19, 1), tickOf(5), cancelOf(19)) {
			lists := []*guarded[int64]{guard(a.Proof.X), guard(a.Proof.Y), guard(a.Proof.QX), guard(a.Proof.QY)}
			for k, l := range listsIn(&a.Proof) {
				*l = lists[k].list()
			}
			checkMarketCall(t, fmt.Sprint(name, ", act ", i), w, func(m impl.Market) impl.Market {
				n, code, told := impl.Acted(m, a)
				if _, wantCode, wantTold := modelActed(m, a); code != wantCode || told != wantTold {
					t.Errorf("%s, act %d: %d %d, wanted %d %d", name, i, code, told, wantCode, wantTold)
				}
				return n
			})
			if slices.ContainsFunc(lists, (*guarded[int64]).touched) {
				t.Fatalf("%s, act %d: the proof is written into", name, i)
			}
		}
	}
}

func TestCalmedWritesNothingAndSharesNothing(t *testing.T) {
	for name, m := range watchedMarkets() {
		w := watch(m)
		for _, worker := range []int64{0, 1, 2, 3, 9, 10} {
			checkMarketCall(t, fmt.Sprint(name, ", calmed by ", worker), w, func(m impl.Market) impl.Market {
				n, _ := impl.Calmed(m, worker)
				return n
			})
		}
	}
}

func TestWhatIsAskedOfAMarketWritesNothing(t *testing.T) {
	for name, m := range watchedMarkets() {
		w := watch(m)
		for range 2 {
			if impl.MarketOk(w.m) != marketRight(m) {
				t.Errorf("%s: the contrary is said", name)
			}
			wantAsked(t, name, w.m)
		}
		if w.touched() {
			t.Fatalf("%s: written into", name)
		}
	}
}

// TestJobsWhoseTasksLieInOneMemory: the lists of the argument are one, those of the answer are not.
func TestJobsWhoseTasksLieInOneMemory(t *testing.T) {
	tasks := make([]impl.Task, 8)
	m := fullMarket(2)
	for i := range m.Jobs {
		m.Jobs[i].Tasks = tasks
	}
	n := wantActed(t, "a lease", m, leaseBy(1), impl.McDone, 900)
	if n.Jobs[1].Tasks[0] != free() || slices.Contains(tasks, leasedTo(1, 8)) {
		t.Error("leased more than once")
	}
	for _, a := range []impl.MAct{leaseBy(1), leaseBy(4), tickOf(1), {}, cancelOf(19), cancelOf(1)} {
		checkMarketCall(t, "one memory", watch(m), func(impl.Market) impl.Market {
			n, _, _ := impl.Acted(m, a)
			return n
		})
	}
	checkMarketCall(t, "one memory, calmed", watch(m), func(impl.Market) impl.Market {
		n, _ := impl.Calmed(m, 1)
		return n
	})
	if slices.ContainsFunc(tasks, func(t impl.Task) bool { return t != free() }) {
		t.Error("written into")
	}
}
