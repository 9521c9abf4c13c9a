package tests

import (
	"reflect"
	"slices"
	"strings"
	"testing"

	"loop.example/g00319/impl"
)

// latest is MaxTime, written as the document has it.
const latest = 1000000000

func free() impl.Task { return impl.Task{} }

func done() impl.Task { return impl.Task{Done: true} }

func leasedTo(worker int64, due int64) impl.Task { return impl.Task{Worker: worker, Due: due} }

// busyMarket has one job of each sort: in work, gone, done, and one of just MaxParts tasks.
// The workers 2 and 5 are banned, 1, 8 and 9 have a task, and 3, 4, 6 and 7 have none.
func busyMarket() impl.Market {
	one := impl.State{X: 1, Y: 1}
	return impl.Market{Now: 100, Next: 20, Banned: []int64{2, 5}, Jobs: []impl.Job{
		{Id: 3, Mach: fib(), Start: one, Rows: 4, Tasks: []impl.Task{done(), leasedTo(1, 101), free(), free()}},
		{Id: 7, Mach: still(), Start: one, Rows: 2, Gone: true, Tasks: []impl.Task{done(), free()}},
		{Id: 12, Mach: squares(), Start: impl.State{X: 2, Y: 3}, Rows: 8, Tasks: []impl.Task{done()}},
		{Id: 19, Mach: fib(), Start: impl.State{X: 2, Y: 3}, Rows: 16, Tasks: []impl.Task{
			free(), leasedTo(9, 105), done(), free(), leasedTo(8, 103), free(), done(), free()}},
	}}
}

func copyMarket(m impl.Market) impl.Market {
	m.Banned = slices.Clone(m.Banned)
	m.Jobs = slices.Clone(m.Jobs)
	for i := range m.Jobs {
		m.Jobs[i].Tasks = slices.Clone(m.Jobs[i].Tasks)
	}
	return m
}

func sameJob(a impl.Job, b impl.Job) bool {
	return a.Id == b.Id && a.Mach == b.Mach && a.Start == b.Start && a.Rows == b.Rows && a.Gone == b.Gone && slices.Equal(a.Tasks, b.Tasks)
}

func sameMarket(a impl.Market, b impl.Market) bool {
	return a.Now == b.Now && a.Next == b.Next && slices.Equal(a.Banned, b.Banned) && slices.EqualFunc(a.Jobs, b.Jobs, sameJob)
}

func between(a int64, low int64, high int64) bool { return low <= a && a <= high }

func elementsIn(numbers ...int64) bool {
	return !slices.ContainsFunc(numbers, func(a int64) bool { return !between(a, 0, prime-1) })
}

func machineRight(m impl.Machine) bool {
	return !slices.ContainsFunc(numbersIn(&m), func(a *int64) bool { return !elementsIn(*a) })
}

// marketRight is MarketOk, reckoned without the program.
func marketRight(m impl.Market) bool {
	if !between(m.Now, 0, latest) || !between(m.Next, 1, latest) || len(m.Jobs) > 6 {
		return false
	}
	// Whoever is banned or has a task is here, and nobody is so twice.
	taken := map[int64]bool{}
	for i, w := range m.Banned {
		if !between(w, 1, 9) || i > 0 && w <= m.Banned[i-1] {
			return false
		}
		taken[w] = true
	}
	for i, j := range m.Jobs {
		if !between(j.Id, 1, m.Next-1) || i > 0 && j.Id <= m.Jobs[i-1].Id || !jobRight(j, m.Now, taken) {
			return false
		}
	}
	return true
}

func jobRight(j impl.Job, now int64, taken map[int64]bool) bool {
	if !machineRight(j.Mach) || !elementsIn(j.Start.X, j.Start.Y) || !slices.Contains(rowCounts, j.Rows) || !between(int64(len(j.Tasks)), 1, 8) {
		return false
	}
	undone := false
	for _, t := range j.Tasks {
		undone = undone || !t.Done
		if t == done() || t == free() {
			continue
		}
		if t.Done || j.Gone || taken[t.Worker] || !between(t.Worker, 1, 9) || !between(t.Due, now+1, now+5) {
			return false
		}
		taken[t.Worker] = true
	}
	return undone || !j.Gone
}

// isZero says whether nothing is in v; a list without anything in it is as good as none.
func isZero(v reflect.Value) bool {
	switch v.Kind() {
	case reflect.Slice:
		return v.Len() == 0
	case reflect.Struct:
		for i := range v.NumField() {
			if !isZero(v.Field(i)) {
				return false
			}
		}
		return true
	}
	return v.IsZero()
}

// namedFields are those that a Kind names; it is empty for a Kind that is none.
func namedFields(kind int64) string {
	switch kind {
	case 1:
		return "Kind Part Many Mach Start"
	case 2:
		return "Kind Worker"
	case 3:
		return "Kind Id Part Worker Proof"
	case 4:
		return "Kind Many"
	case 5:
		return "Kind Id"
	}
	return ""
}

// formRight is whether Acted takes the form of an act, reckoned without the program.
func formRight(a impl.MAct) bool {
	named := namedFields(a.Kind)
	v := reflect.ValueOf(a)
	for i := range v.NumField() {
		if !strings.Contains(named, v.Type().Field(i).Name) && !isZero(v.Field(i)) {
			return false
		}
	}
	switch a.Kind {
	case 1:
		return machineRight(a.Mach) && elementsIn(a.Start.X, a.Start.Y) && slices.Contains(rowCounts, a.Part) && between(a.Many, 1, 8)
	case 2:
		return between(a.Worker, 1, 9)
	case 3:
		return between(a.Worker, 1, 9) && between(a.Id, 1, latest) && between(a.Part, 0, 7)
	case 4:
		return between(a.Many, 1, latest)
	}
	return a.Kind == 5 && between(a.Id, 1, latest)
}

// stateAt is where a part of a job begins.
func stateAt(j impl.Job, part int64) impl.State {
	n := part * (j.Rows - 1)
	return runOf(j.Mach, j.Start, n)[n]
}

// proofFor is the one proof of a part that is accepted.
func proofFor(j impl.Job, part int64) impl.Proof {
	p, _ := provedWith(j.Mach, runOf(j.Mach, stateAt(j, part), j.Rows-1), j.Rows-1)
	return p
}

func jobAt(m impl.Market, id int64) int {
	return slices.IndexFunc(m.Jobs, func(j impl.Job) bool { return j.Id == id })
}

func allTasksDone(j impl.Job) bool { return !slices.ContainsFunc(j.Tasks, isUndone) }

func isUndone(t impl.Task) bool { return !t.Done }

// modelActed is Acted, reckoned without the program.
func modelActed(m impl.Market, a impl.MAct) (impl.Market, int64, int64) {
	if !marketRight(m) {
		return impl.Market{}, 1, 0
	}
	n := copyMarket(m)
	if !formRight(a) {
		return n, 2, 0
	}
	place := jobAt(n, a.Id)
	switch {
	case a.Kind == 1 && (len(n.Jobs) == 6 || n.Next == latest):
		return n, 3, 0
	case a.Kind == 1:
		n.Jobs = append(n.Jobs, impl.Job{Id: n.Next, Mach: a.Mach, Start: a.Start, Rows: a.Part, Tasks: make([]impl.Task, a.Many)})
		n.Next++
		return n, 0, n.Next - 1
	case a.Kind == 4:
		n.Now = min(latest, n.Now+a.Many)
		eachTask(n, func(t *impl.Task) {
			if t.Due <= n.Now {
				t.Worker, t.Due = 0, 0
			}
		})
		return n, 0, 0
	case a.Kind == 5 && place < 0:
		return n, 4, 0
	case a.Kind == 5 && (n.Jobs[place].Gone || allTasksDone(n.Jobs[place])):
		return n, 8, 0
	case a.Kind == 5:
		n.Jobs[place].Gone = true
		eachTask(impl.Market{Jobs: n.Jobs[place : place+1]}, func(t *impl.Task) { t.Worker, t.Due = 0, 0 })
		return n, 0, 0
	case slices.Contains(n.Banned, a.Worker):
		return n, 5, 0
	case a.Kind == 2:
		return modelLeased(n, a.Worker)
	}
	return modelReturned(n, place, a)
}

func eachTask(m impl.Market, f func(t *impl.Task)) {
	for _, j := range m.Jobs {
		for i := range j.Tasks {
			f(&j.Tasks[i])
		}
	}
}

// modelLeased and modelReturned write into n.
func modelLeased(n impl.Market, worker int64) (impl.Market, int64, int64) {
	busy := false
	eachTask(n, func(t *impl.Task) { busy = busy || t.Worker == worker })
	if busy {
		return n, 6, 0
	}
	for _, j := range n.Jobs {
		for i, t := range j.Tasks {
			if t == free() && !j.Gone {
				j.Tasks[i] = leasedTo(worker, n.Now+5)
				return n, 0, 100*j.Id + int64(i)
			}
		}
	}
	return n, 4, 0
}

func modelReturned(n impl.Market, place int, a impl.MAct) (impl.Market, int64, int64) {
	if place < 0 || a.Part >= int64(len(n.Jobs[place].Tasks)) {
		return n, 4, 0
	}
	j := n.Jobs[place]
	if j.Tasks[a.Part].Worker != a.Worker {
		return n, 8, 0
	}
	if !sameProof(a.Proof, proofFor(j, a.Part)) {
		j.Tasks[a.Part] = free()
		n.Banned = append(n.Banned, a.Worker)
		slices.Sort(n.Banned)
		return n, 7, 0
	}
	j.Tasks[a.Part] = done()
	if allTasksDone(j) {
		return n, 0, 1
	}
	return n, 0, 0
}

func submitOf(m impl.Machine, s impl.State, rows int64, many int64) impl.MAct {
	return impl.MAct{Kind: impl.MkSubmit, Mach: m, Start: s, Part: rows, Many: many}
}

func leaseBy(worker int64) impl.MAct { return impl.MAct{Kind: impl.MkLease, Worker: worker} }

func tickOf(many int64) impl.MAct { return impl.MAct{Kind: impl.MkTick, Many: many} }

func cancelOf(id int64) impl.MAct { return impl.MAct{Kind: impl.MkCancel, Id: id} }

func returnBy(worker int64, id int64, part int64, p impl.Proof) impl.MAct {
	return impl.MAct{Kind: impl.MkReturn, Worker: worker, Id: id, Part: part, Proof: p}
}

// honestReturn wants a job and a part that are there.
func honestReturn(m impl.Market, worker int64, id int64, part int64) impl.MAct {
	return returnBy(worker, id, part, proofFor(m.Jobs[jobAt(m, id)], part))
}

// wantActed holds an act against what is told to be the answer and against the model, and
// tells the market behind it.
func wantActed(t *testing.T, what string, m impl.Market, a impl.MAct, code int64, told int64) impl.Market {
	t.Helper()
	want, wantCode, wantTold := modelActed(m, a)
	if wantCode != code || wantTold != told {
		t.Fatalf("%s: the model tells %d %d, the test %d %d", what, wantCode, wantTold, code, told)
	}
	got, gotCode, gotTold := impl.Acted(m, a)
	if gotCode != code || gotTold != told || !sameMarket(got, want) {
		t.Fatalf("%s: %v %d %d, wanted %v %d %d", what, got, gotCode, gotTold, want, code, told)
	}
	if refused := code != impl.McDone && code != impl.McBad; refused && code != impl.McWrong && !sameMarket(got, m) {
		t.Fatalf("%s: refused, but the market is not as it was: %v", what, got)
	}
	if code != impl.McWrong && (!impl.MarketOk(got) || !marketRight(got)) {
		t.Fatalf("%s: the market behind it is not right: %v", what, got)
	}
	return got
}
