package tests

import (
	"fmt"
	"strings"
	"testing"

	"loop.example/g00319/impl"
)

func TestLimitsOfScripts(t *testing.T) {
	wantNumber(t, "MaxScript", impl.MaxScript, 40)
	wantNumber(t, "MaxLines", impl.MaxLines, 4000)
}

func TestAnOrdinaryScript(t *testing.T) {
	wantTalk(t, "two workers, of whom one forges", `
		submit 4 3 1 1 0 0 0 0 1 0 0 0 0 1 1 0 -> ok 1
		lease 7 -> ok 100
		lease 2 -> ok 101
		prove 7 1 0 -> ok 0
		status 1 -> status 1 3
		forge 2 1 1 -> no 7
		banned -> banned 2
		lease 7 -> ok 101
		prove 7 1 1 -> ok 0
		lease 7 -> ok 102
		result 1 -> no
		prove 7 1 2 -> ok 1
		status 1 -> status 3 3
		result 1 -> result 55 89 9
		lease 7 -> no 4
	`)
	wantTalk(t, "two jobs, one of which is cancelled", `
		submit 2 2 1 1 0 0 0 0 1 0 0 0 0 1 1 0 -> ok 1
		submit 8 1 2 3 1 0 0 0 0 1 0 1 0 0 0 65536 -> ok 2
		lease 3 -> ok 100
		cancel 1 -> ok 0
		prove 3 1 0 -> no 8
		lease 3 -> ok 200
		tick 5 -> ok 0
		prove 3 2 0 -> no 8
		calm 3 -> ok
		status 1 -> status 0 2
		status 2 -> status 1 1
		result 1 -> no
		result 2 -> result 25792 8040 7
		banned -> banned
	`)
}

// TestASubmitSetsEachNumber: with one rule and one start at a time, the end says where each number went.
func TestASubmitSetsEachNumber(t *testing.T) {
	for place := range 12 {
		numbers := make([]int64, 12)
		numbers[place] = 7
		want := []int64{0, 0}
		want[place/6] = 7 * []int64{3 * 3, 3 * 5, 5 * 5, 3, 5, 1}[place%6]
		rules := strings.Trim(fmt.Sprint(numbers), "[]")
		wantTalk(t, fmt.Sprint("the number ", place, " of the rules"), fmt.Sprintf(`
			submit 2 1 3 5 %s -> ok 1
			calm 1 -> ok
			result 1 -> result %d %d 1
		`, rules, want[0], want[1]))
	}
	for _, rows := range rowCounts {
		for many := int64(1); many <= 8; many++ {
			steps := many * (rows - 1)
			end := runOf(fib(), impl.State{X: 4, Y: 65536}, steps)[steps]
			wantTalk(t, fmt.Sprint(rows, " rows, ", many, " parts"), fmt.Sprintf(`
				submit %d %d 4 65536 %s -> ok 1
				status 1 -> status 0 %d
				calm 9 -> ok
				status 1 -> status %d %d
				result 1 -> result %d %d %d
			`, rows, many, fibRules, many, many, many, end.X, end.Y, steps))
		}
	}
}

func TestWhatASubmitSays(t *testing.T) {
	talk := ""
	for id := range 6 {
		talk += fmt.Sprintf("submit 2 1 0 0 %s -> ok %d\n", fibRules, id+1)
	}
	talk += "submit 2 1 0 0 " + fibRules + " -> no 3\n"
	talk += "submit 3 1 0 0 " + fibRules + " -> no 2\n"
	// What is gone or done still takes its room.
	talk += "cancel 6 -> ok 0\nsubmit 2 1 0 0 " + fibRules + " -> no 3\n"
	talk += "calm 1 -> ok\nsubmit 2 1 0 0 " + fibRules + " -> no 3\nstatus 7 -> no\n"
	wantTalk(t, "six jobs and one more", talk)

	right := strings.Fields("4 2 1 1 " + fibRules)
	for place := range right {
		wrong := []string{"65537", "65538", "999999999"}
		if place == 0 {
			wrong = append(wrong, "0", "1", "3", "5", "15", "17", "32", "64")
		}
		if place == 1 {
			wrong = append(wrong, "0", "9", "10")
		}
		for _, number := range wrong {
			numbers := append([]string{}, right...)
			numbers[place] = number
			wantTalk(t, fmt.Sprint("a submit with ", number, " at ", place), lineOf("submit", numbers)+" -> no 2\nstatus 1 -> no\n"+lineOf("submit", right)+" -> ok 1\n")
		}
	}
}

func TestWhatALeaseSays(t *testing.T) {
	wantTalk(t, "leases", `
		lease 1 -> no 4
		submit 2 2 0 0 0 0 0 0 0 1 0 0 0 0 0 1 -> ok 1
		submit 2 1 0 0 0 0 0 0 0 1 0 0 0 0 0 1 -> ok 2
		lease 0 -> no 2
		lease 10 -> no 2
		lease 999999999 -> no 2
		lease 9 -> ok 100
		lease 9 -> no 6
		lease 1 -> ok 101
		lease 5 -> ok 200
		lease 6 -> no 4
		lease 5 -> no 6
		forge 5 2 0 -> no 7
		lease 5 -> no 5
		lease 6 -> ok 200
		tick 4 -> ok 0
		lease 6 -> no 6
		tick 1 -> ok 0
		lease 6 -> ok 100
		lease 5 -> no 5
	`)
}

func TestWhatATickSays(t *testing.T) {
	wantTalk(t, "ticks", `
		tick 0 -> no 2
		tick 1 -> ok 0
		tick 999999999 -> ok 0
		tick 999999999 -> ok 0
		tick 0 -> no 2
		banned -> banned
	`)
	wantTalk(t, "a lease that is over by a tick", `
		submit 2 1 0 0 0 0 0 0 0 1 0 0 0 0 0 1 -> ok 1
		lease 1 -> ok 100
		tick 999999999 -> ok 0
		prove 1 1 0 -> no 8
		lease 2 -> ok 100
		tick 1 -> ok 0
		prove 2 1 0 -> ok 1
	`)
}

func TestWhatACancelSays(t *testing.T) {
	wantTalk(t, "cancels", `
		cancel 0 -> no 2
		cancel 1 -> no 4
		cancel 999999999 -> no 4
		submit 2 1 0 0 0 0 0 0 0 1 0 0 0 0 0 1 -> ok 1
		submit 2 2 0 0 0 0 0 0 0 1 0 0 0 0 0 1 -> ok 2
		cancel 3 -> no 4
		lease 1 -> ok 100
		prove 1 1 0 -> ok 1
		cancel 1 -> no 8
		lease 1 -> ok 200
		cancel 2 -> ok 0
		cancel 2 -> no 8
		lease 1 -> no 4
		status 2 -> status 0 2
	`)
}

func TestWhatAProveSays(t *testing.T) {
	wantTalk(t, "what is not there", `
		prove 1 1 0 -> no 4
		submit 16 2 3 4 1 2 3 4 5 6 7 8 9 10 11 12 -> ok 1
		prove 0 1 0 -> no 2
		prove 10 1 0 -> no 2
		prove 1 0 0 -> no 2
		prove 1 1 8 -> no 2
		prove 1 1 9 -> no 2
		prove 1 1 999999999 -> no 2
		prove 1 2 8 -> no 2
		prove 1 2 0 -> no 4
		prove 1 2 7 -> no 4
		prove 1 999999999 0 -> no 4
		prove 1 1 2 -> no 4
		prove 1 1 7 -> no 4
		prove 1 1 0 -> no 8
		prove 1 1 1 -> no 8
		banned -> banned
		status 1 -> status 0 2
	`)
	wantTalk(t, "what others have", `
		submit 16 2 3 4 1 2 3 4 5 6 7 8 9 10 11 12 -> ok 1
		lease 1 -> ok 100
		lease 2 -> ok 101
		prove 1 1 1 -> no 8
		prove 2 1 0 -> no 8
		prove 3 1 0 -> no 8
		prove 1 1 2 -> no 4
		banned -> banned
		status 1 -> status 0 2
		prove 2 1 1 -> ok 0
		prove 2 1 1 -> no 8
		prove 1 1 1 -> no 8
		prove 1 1 0 -> ok 1
		prove 1 1 0 -> no 8
		banned -> banned
		status 1 -> status 2 2
	`)
	wantTalk(t, "who is banned", `
		submit 2 2 0 0 0 0 0 0 0 1 0 0 0 0 0 1 -> ok 1
		lease 4 -> ok 100
		forge 4 1 0 -> no 7
		prove 4 1 0 -> no 5
		prove 4 1 7 -> no 5
		prove 4 2 0 -> no 5
		prove 4 1 8 -> no 2
		prove 4 0 0 -> no 2
	`)
}

// TestAProveOfEachPart: each part begins somewhere else, so a proof of another one would be bad.
func TestAProveOfEachPart(t *testing.T) {
	for _, rows := range rowCounts {
		talk := fmt.Sprintf("submit %d 8 3 4 1 2 3 4 5 6 7 8 9 10 11 12 -> ok 1\n", rows)
		for part := range 8 {
			talk += fmt.Sprintf("lease 9 -> ok %d\nprove 9 1 %d -> ok %d\n", 100+part, part, part/7)
		}
		steps := 8 * (rows - 1)
		end := runOf(machineOf([]int64{1, 2, 3, 4, 5, 6, 7, 8, 9, 10, 11, 12}), impl.State{X: 3, Y: 4}, steps)[steps]
		talk += fmt.Sprintf("result 1 -> result %d %d %d\nbanned -> banned\n", end.X, end.Y, steps)
		wantTalk(t, fmt.Sprint(rows, " rows"), talk)
	}
}

func TestWhatAForgeSays(t *testing.T) {
	wantTalk(t, "forges", `
		forge 1 1 0 -> no 4
		submit 4 2 0 0 0 0 0 0 0 0 0 0 0 0 0 0 -> ok 1
		forge 0 1 0 -> no 2
		forge 10 1 0 -> no 2
		forge 1 0 0 -> no 2
		forge 1 1 8 -> no 2
		forge 1 1 2 -> no 4
		forge 1 1 0 -> no 8
		banned -> banned
		lease 1 -> ok 100
		lease 2 -> ok 101
		forge 1 1 1 -> no 8
		forge 3 1 0 -> no 8
		banned -> banned
		forge 1 1 0 -> no 7
		banned -> banned 1
		forge 1 1 0 -> no 5
		lease 1 -> no 5
		calm 1 -> no
		status 1 -> status 0 2
		lease 3 -> ok 100
		prove 3 1 0 -> ok 0
		forge 3 1 0 -> no 8
		banned -> banned 1
	`)
}

func TestWhatStatusSays(t *testing.T) {
	wantTalk(t, "status", `
		status 0 -> no
		status 1 -> no
		status 999999999 -> no
		submit 2 3 0 0 0 0 0 0 0 1 0 0 0 0 0 1 -> ok 1
		status 1 -> status 0 3
		status 2 -> no
		lease 1 -> ok 100
		status 1 -> status 0 3
		prove 1 1 0 -> ok 0
		status 1 -> status 1 3
		cancel 1 -> ok 0
		status 1 -> status 1 3
		submit 2 8 0 0 0 0 0 0 0 1 0 0 0 0 0 1 -> ok 2
		calm 1 -> ok
		status 2 -> status 8 8
		status 1 -> status 1 3
	`)
}

func TestWhatResultSays(t *testing.T) {
	wantTalk(t, "results", `
		result 0 -> no
		result 1 -> no
		result 999999999 -> no
		submit 2 2 5 6 0 0 0 0 0 65536 0 0 0 0 0 65535 -> ok 1
		submit 16 8 0 0 0 0 0 1 0 1 0 0 0 0 1 65535 -> ok 2
		submit 2 1 0 0 0 0 0 0 0 1 0 0 0 0 0 1 -> ok 3
		result 1 -> no
		lease 1 -> ok 100
		prove 1 1 0 -> ok 0
		result 1 -> no
		lease 1 -> ok 101
		result 1 -> no
		prove 1 1 1 -> ok 1
		result 1 -> result 65536 65535 2
		cancel 3 -> ok 0
		calm 1 -> ok
		result 2 -> result 120 65297 120
		result 3 -> no
		result 4 -> no
	`)
}

func TestWhoIsBanned(t *testing.T) {
	talk := "submit 2 1 0 0 0 0 0 0 0 1 0 0 0 0 0 1 -> ok 1\nbanned -> banned\n"
	// They stand by number, not in the order in which they came.
	for _, row := range []string{"5 5", "9 5 9", "1 1 5 9", "7 1 5 7 9", "2 1 2 5 7 9", "8 1 2 5 7 8 9", "3 1 2 3 5 7 8 9", "6 1 2 3 5 6 7 8 9", "4 1 2 3 4 5 6 7 8 9"} {
		talk += fmt.Sprintf("lease %s -> ok 100\nforge %s 1 0 -> no 7\nbanned -> banned%s\n", row[:1], row[:1], row[1:])
	}
	for worker := 1; worker <= 9; worker++ {
		talk += fmt.Sprintf("calm %d -> no\n", worker)
	}
	wantTalk(t, "all of them", talk)
}

func TestWhatACalmSays(t *testing.T) {
	wantTalk(t, "calms", `
		calm 0 -> no
		calm 10 -> no
		calm 999999999 -> no
		calm 1 -> ok
		submit 4 2 1 1 0 0 0 0 1 0 0 0 0 1 1 0 -> ok 1
		lease 2 -> ok 100
		lease 3 -> ok 101
		forge 3 1 1 -> no 7
		calm 3 -> no
		calm 0 -> no
		status 1 -> status 0 2
		banned -> banned 3
		prove 2 1 0 -> ok 0
		lease 2 -> ok 101
		calm 9 -> ok
		prove 2 1 1 -> no 8
		result 1 -> result 13 21 6
		banned -> banned 3
	`)
	wantTalk(t, "the last calms", `
		submit 4 2 1 1 0 0 0 0 1 0 0 0 0 1 1 0 -> ok 1
		tick 999999985 -> ok 0
		calm 1 -> ok
		submit 4 1 1 1 0 0 0 0 1 0 0 0 0 1 1 0 -> ok 2
		calm 1 -> ok
		submit 4 1 1 1 0 0 0 0 1 0 0 0 0 1 1 0 -> ok 3
		calm 1 -> no
		status 2 -> status 1 1
		status 3 -> status 0 1
		lease 1 -> ok 300
	`)
	wantTalk(t, "one tick too late", `
		submit 4 2 1 1 0 0 0 0 1 0 0 0 0 1 1 0 -> ok 1
		lease 1 -> ok 100
		tick 999999991 -> ok 0
		calm 1 -> no
		lease 1 -> ok 100
	`)
}
