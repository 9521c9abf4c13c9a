package tests

import (
	"fmt"
	"math"
	"slices"
	"testing"

	"loop.example/g00319/impl"
)

// marketCase is a market that differs from a right one in one thing, and whether it is right.
type marketCase struct {
	what  string
	right bool
	m     impl.Market
}

// changed is busyMarket with a change.
func changed(what string, right bool, change func(m *impl.Market)) marketCase {
	m := busyMarket()
	change(&m)
	return marketCase{what, right, m}
}

// withTask is busyMarket with another task at a place of the job that is told by its place.
func withTask(right bool, job int, place int, t impl.Task) marketCase {
	return changed(fmt.Sprint("job ", job, " task ", place, " as ", t), right, func(m *impl.Market) { m.Jobs[job].Tasks[place] = t })
}

func emptyMarket(now int64, next int64, banned ...int64) impl.Market {
	return impl.Market{Now: now, Next: next, Banned: banned}
}

// plainJobs are so many jobs of one free task, with the Ids 1, 2 and so on.
func plainJobs(many int) []impl.Job {
	var out []impl.Job
	for i := range many {
		out = append(out, impl.Job{Id: int64(i) + 1, Mach: fib(), Rows: 2, Tasks: []impl.Task{free()}})
	}
	return out
}

func timeCases() []marketCase {
	out := []marketCase{{"nothing at all", false, impl.Market{}}}
	for _, now := range []int64{0, 1, latest - 1, latest} {
		out = append(out, marketCase{fmt.Sprint("Now ", now), true, emptyMarket(now, 1)})
	}
	for _, now := range []int64{-1, latest + 1, math.MinInt64, math.MaxInt64} {
		out = append(out, marketCase{fmt.Sprint("Now ", now), false, emptyMarket(now, 1)})
	}
	for _, next := range []int64{1, 2, latest - 1, latest} {
		out = append(out, marketCase{fmt.Sprint("Next ", next), true, emptyMarket(0, next)})
	}
	for _, next := range []int64{0, -1, latest + 1, math.MinInt64, math.MaxInt64} {
		out = append(out, marketCase{fmt.Sprint("Next ", next), false, emptyMarket(0, next)})
	}
	return out
}

func bannedCases() []marketCase {
	var out []marketCase
	for _, l := range [][]int64{{}, {1}, {9}, {1, 9}, {8, 9}, {1, 2, 3, 4, 5, 6, 7, 8, 9}} {
		out = append(out, marketCase{fmt.Sprint("banned ", l), true, emptyMarket(0, 1, l...)})
	}
	for _, l := range [][]int64{{0}, {10}, {-1}, {0, 1}, {9, 10}, {1, 1}, {9, 9}, {2, 1}, {1, 3, 2}, {1, 2, 2}, {3, 4, 1}, {1, 2, 3, 4, 5, 6, 7, 8, 9, 9}, {1, 2, 3, 4, 5, 6, 7, 8, 9, 10}, {math.MinInt64}, {math.MaxInt64}} {
		out = append(out, marketCase{fmt.Sprint("banned ", l), false, emptyMarket(0, 1, l...)})
	}
	for worker := int64(1); worker <= 9; worker++ {
		hasTask := worker == 1 || worker == 8 || worker == 9
		out = append(out, changed(fmt.Sprint(worker, " alone is banned"), !hasTask, func(m *impl.Market) { m.Banned = []int64{worker} }))
	}
	return out
}

func jobCases() []marketCase {
	var out []marketCase
	for many := range impl.MaxJobs + 3 {
		out = append(out, marketCase{fmt.Sprint(many, " jobs"), many <= 6, impl.Market{Next: 100, Jobs: plainJobs(many)}})
		for next := int64(1); next < 10; next++ {
			out = append(out, marketCase{fmt.Sprint(many, " jobs, Next ", next), many <= 6 && int64(many) < next, impl.Market{Next: next, Jobs: plainJobs(many)}})
		}
	}
	for place, ids := range [][2]int64{{1, 6}, {4, 11}, {8, 18}, {13, 19}} {
		for _, id := range []int64{ids[0], ids[1]} {
			out = append(out, changed(fmt.Sprint("job ", place, " has the Id ", id), true, func(m *impl.Market) { m.Jobs[place].Id = id }))
		}
		for _, id := range []int64{ids[0] - 1, ids[1] + 1, 0, -1, -3, 20, 21, latest, math.MinInt64, math.MaxInt64} {
			out = append(out, changed(fmt.Sprint("job ", place, " has the Id ", id), false, func(m *impl.Market) { m.Jobs[place].Id = id }))
		}
	}
	out = append(out, changed("two jobs exchanged", false, func(m *impl.Market) { m.Jobs[0], m.Jobs[2] = m.Jobs[2], m.Jobs[0] }))
	last := impl.Market{Next: latest, Jobs: plainJobs(1)}
	last.Jobs[0].Id = latest - 1
	beyond := copyMarket(last)
	beyond.Jobs[0].Id = latest
	return append(out, marketCase{"the last Id", true, last}, marketCase{"one Id more", false, beyond})
}

// insideCases have something else in one job: its machine, its state, its rows, how many tasks.
func insideCases() []marketCase {
	var out []marketCase
	for place := range busyMarket().Jobs {
		for _, mach := range noMachines() {
			out = append(out, changed(fmt.Sprint("job ", place, " of ", mach), false, func(m *impl.Market) { m.Jobs[place].Mach = mach }))
		}
		for _, mach := range someMachines() {
			out = append(out, changed(fmt.Sprint("job ", place, " of ", mach), true, func(m *impl.Market) { m.Jobs[place].Mach = mach }))
		}
		for _, s := range noStates() {
			out = append(out, changed(fmt.Sprint("job ", place, " from ", s), false, func(m *impl.Market) { m.Jobs[place].Start = s }))
		}
		for _, s := range someStates() {
			out = append(out, changed(fmt.Sprint("job ", place, " from ", s), true, func(m *impl.Market) { m.Jobs[place].Start = s }))
		}
		for _, rows := range noRowCounts() {
			out = append(out, changed(fmt.Sprint("job ", place, " of rows ", rows), false, func(m *impl.Market) { m.Jobs[place].Rows = rows }))
		}
		for _, rows := range rowCounts {
			out = append(out, changed(fmt.Sprint("job ", place, " of rows ", rows), true, func(m *impl.Market) { m.Jobs[place].Rows = rows }))
		}
		for many := range 12 {
			for _, task := range []impl.Task{free(), done()} {
				// Of a job that is gone one is not done.
				right := many >= 1 && many <= 8 && (place != 1 || task == free())
				out = append(out, changed(fmt.Sprint("job ", place, " of ", many, " tasks ", task), right, func(m *impl.Market) {
					m.Jobs[place].Tasks = slices.Repeat([]impl.Task{task}, many)
				}))
			}
		}
	}
	return out
}

func taskCases() []marketCase {
	var out []marketCase
	for _, at := range [][2]int{{0, 1}, {0, 2}, {3, 0}, {3, 7}, {2, 0}} {
		job, place := at[0], at[1]
		for _, due := range []int64{101, 102, 104, 105} {
			out = append(out, withTask(true, job, place, leasedTo(3, due)))
		}
		for _, due := range []int64{0, 99, 100, 106, 107, -1, 1, 5, -101, latest, math.MinInt64, math.MaxInt64} {
			out = append(out, withTask(false, job, place, leasedTo(3, due)))
		}
		for _, worker := range []int64{3, 4, 6, 7} {
			out = append(out, withTask(true, job, place, leasedTo(worker, 103)))
		}
		for _, worker := range []int64{0, -1, 10, 11, 2, 5, 8, 9, -3, math.MinInt64, math.MaxInt64} {
			out = append(out, withTask(false, job, place, leasedTo(worker, 103)))
		}
		// Done, but with a Worker, a Due or both; free, but with one of these.
		for _, t := range []impl.Task{{Done: true, Worker: 3}, {Done: true, Due: 103}, {Done: true, Due: 1}, {Done: true, Due: -1}, {Done: true, Worker: 3, Due: 103}, {Done: true, Worker: -1}, {Worker: 3}, {Due: 103}, {Due: 100}, {Due: -1}} {
			out = append(out, withTask(false, job, place, t))
		}
		out = append(out, withTask(true, job, place, free()), withTask(true, job, place, done()))
	}
	// Worker 1 has the task 1 of job 0 already: another one in this job, and in another.
	return append(out, withTask(false, 0, 2, leasedTo(1, 101)), withTask(false, 0, 2, leasedTo(1, 103)), withTask(false, 3, 0, leasedTo(1, 101)), withTask(true, 0, 1, leasedTo(1, 105)))
}

func goneCases() []marketCase {
	gone := func(what string, right bool, tasks ...impl.Task) marketCase {
		return changed("gone: "+what, right, func(m *impl.Market) { m.Jobs[1].Tasks = tasks })
	}
	return []marketCase{
		gone("one free", true, free()),
		gone("all free", true, slices.Repeat([]impl.Task{free()}, 8)...),
		gone("one of many is free", true, done(), done(), done(), free(), done()),
		gone("one done", false, done()),
		gone("all done", false, slices.Repeat([]impl.Task{done()}, 8)...),
		gone("one leased", false, leasedTo(3, 103)),
		gone("one leased, one free", false, leasedTo(3, 103), free()),
		gone("one free, one leased", false, free(), leasedTo(3, 103)),
		gone("one done, one leased", false, done(), leasedTo(3, 103)),
		gone("one leased, done ones", false, leasedTo(3, 105), done(), done()),
		changed("all go but the done one", false, func(m *impl.Market) { m.Jobs[0].Gone = true }),
		changed("the done one goes", false, func(m *impl.Market) { m.Jobs[2].Gone = true }),
		changed("the long one goes", false, func(m *impl.Market) { m.Jobs[3].Gone = true }),
		changed("the gone one comes back", true, func(m *impl.Market) { m.Jobs[1].Gone = false }),
	}
}

// lateCases have leases at both ends of time.
func lateCases() []marketCase {
	var out []marketCase
	for _, now := range []int64{0, 1, latest - 5, latest - 4, latest} {
		for ahead := int64(-1); ahead <= 7; ahead++ {
			m := impl.Market{Now: now, Next: 2, Jobs: plainJobs(1)}
			m.Jobs[0].Tasks[0] = leasedTo(9, now+ahead)
			out = append(out, marketCase{fmt.Sprint("Now ", now, ", Due ", ahead, " later"), ahead >= 1 && ahead <= 5, m})
		}
	}
	full := impl.Market{Next: 7, Jobs: plainJobs(6)}
	for i := range full.Jobs {
		full.Jobs[i].Tasks = make([]impl.Task, 8)
		full.Jobs[i].Tasks[i] = leasedTo(int64(i)+1, 5)
	}
	full.Jobs[0].Tasks[5], full.Jobs[1].Tasks[5], full.Jobs[2].Tasks[7] = leasedTo(7, 1), leasedTo(8, 2), leasedTo(9, 3)
	twice := copyMarket(full)
	twice.Jobs[5].Tasks[7] = leasedTo(4, 5)
	return append(out, marketCase{"all workers have a task", true, full}, marketCase{"the fourth has two", false, twice})
}

func allMarketCases() []marketCase {
	return slices.Concat([]marketCase{{"the busy one", true, busyMarket()}}, timeCases(), bannedCases(), jobCases(), insideCases(), taskCases(), goneCases(), lateCases())
}

func TestNumbersOfTheMarket(t *testing.T) {
	kinds := []int64{impl.MkSubmit, impl.MkLease, impl.MkReturn, impl.MkTick, impl.MkCancel}
	wantList(t, "kinds", kinds, []int64{1, 2, 3, 4, 5})
	codes := []int64{impl.McDone, impl.McWrong, impl.McForm, impl.McFull, impl.McNone, impl.McBanned, impl.McBusy, impl.McBad, impl.McLate}
	wantList(t, "codes", codes, []int64{0, 1, 2, 3, 4, 5, 6, 7, 8})
	limits := []int64{impl.MaxJobs, impl.MaxParts, impl.MaxWorkers, impl.MaxTime, impl.Term}
	wantList(t, "limits", limits, []int64{6, 8, 9, latest, 5})
}

func TestWhatMarketIsRight(t *testing.T) {
	for _, c := range allMarketCases() {
		if marketRight(c.m) != c.right {
			t.Fatalf("%s: the model says the contrary", c.what)
		}
		if impl.MarketOk(c.m) != c.right {
			t.Errorf("%s: right is %v: %v", c.what, !c.right, c.m)
		}
	}
}

func someActs() []impl.MAct {
	p := proofFor(busyMarket().Jobs[0], 1)
	return []impl.MAct{
		{}, {Kind: 6}, {Kind: -1, Id: 3}, submitOf(fib(), impl.State{}, 4, 2), submitOf(fib(), impl.State{}, 3, 2),
		leaseBy(1), leaseBy(3), leaseBy(2), leaseBy(10), tickOf(1), tickOf(0), tickOf(latest), cancelOf(3), cancelOf(12), cancelOf(1),
		returnBy(1, 3, 1, p), returnBy(1, 3, 1, impl.Proof{}), returnBy(2, 3, 1, p), returnBy(1, 3, 7, p), returnBy(1, 3, 8, p),
	}
}

func TestWhatIsSaidOfAMarketThatIsNotRight(t *testing.T) {
	for _, c := range allMarketCases() {
		if c.right {
			continue
		}
		for _, a := range someActs() {
			wantActed(t, c.what, c.m, a, impl.McWrong, 0)
		}
		for _, id := range []int64{-1, 0, 1, 3, 7, 12, 19, 20} {
			wantNoStatus(t, c.what, c.m, id)
			claim, ok := impl.ResultOf(c.m, id)
			wantNoClaim(t, c.what, claim, ok)
		}
		for worker := int64(0); worker <= 10; worker++ {
			wantNoCalm(t, c.what, c.m, worker)
		}
	}
}

func TestWhatIsSaidOfAMarketThatIsRight(t *testing.T) {
	for _, c := range allMarketCases() {
		for _, a := range someActs() {
			_, code, told := modelActed(c.m, a)
			wantActed(t, c.what, c.m, a, code, told)
		}
		wantAsked(t, c.what, c.m)
	}
}
