package tests

import (
	"fmt"
	"runtime"
	"slices"
	"strings"
	"testing"

	"loop.example/g00319/impl"
)

// anyNumber is one that is mostly right where low .. high is, and now and then any other.
func (s *series) anyNumber(low int64, high int64) string {
	if s.upTo(25) == 0 {
		return []string{"0", "8", "9", "10", "65537", "999999999", "1000000000", "01", "-1", "x"}[s.upTo(10)]
	}
	return fmt.Sprint(low + s.upTo(high-low+1))
}

func (s *series) anySubmit() []string {
	words := []string{"submit", fmt.Sprint(rowCounts[s.upTo(4)]), s.anyNumber(1, 4), s.anyNumber(0, prime-1), s.anyNumber(0, 3)}
	machines := someMachines()
	m := machines[s.upTo(int64(len(machines)))]
	for _, place := range numbersIn(&m) {
		words = append(words, fmt.Sprint(*place))
	}
	if s.upTo(8) == 0 {
		words[1+s.upTo(16)] = s.anyNumber(0, 2*prime)
	}
	return words
}

// anyBack is mostly of a task that is leased, if there is one, by who has it.
func (s *series) anyBack(m impl.Market) []string {
	word := []string{"prove", "prove", "prove", "forge"}[s.upTo(4)]
	leased := leasedPlaces(m)
	if len(leased) == 0 || s.upTo(3) == 0 {
		return []string{word, s.anyNumber(1, 9), s.anyNumber(1, m.Next), s.anyNumber(0, 7)}
	}
	at := leased[s.upTo(int64(len(leased)))]
	return []string{word, fmt.Sprint(at[2]), fmt.Sprint(at[0]), fmt.Sprint(at[1])}
}

func (s *series) anyWords(m impl.Market) []string {
	switch s.upTo(24) {
	case 0, 1, 2:
		return s.anySubmit()
	case 3, 4:
		return []string{"tick", s.anyNumber(1, 3)}
	case 5:
		return []string{"tick", []string{"0", "5", "999999999", "x"}[s.upTo(4)]}
	case 6, 7:
		return []string{"cancel", s.anyNumber(1, m.Next)}
	case 8, 9:
		return []string{"status", s.anyNumber(1, m.Next)}
	case 10, 11:
		return []string{"result", s.anyNumber(1, m.Next)}
	case 12:
		return []string{"banned"}
	case 13:
		return []string{"calm", s.anyNumber(1, 9)}
	case 14:
		return [][]string{nil, {"fly"}, {"banned", "1"}, {"lease"}, {"lease", "1", "2"}, {"\tbanned"}}[s.upTo(6)]
	case 15, 16, 17, 18:
		return []string{"lease", s.anyNumber(1, 9)}
	}
	return s.anyBack(m)
}

// anyLine parts the words by blanks, mostly one.
func (s *series) anyLine(m impl.Market) string {
	parted := []string{" ", " ", " ", "  ", "   "}[s.upTo(5)]
	around := []string{"", "", "", " ", "  "}
	return around[s.upTo(5)] + strings.Join(s.anyWords(m), parted) + around[s.upTo(5)]
}

// anyScript is so many lines, told one by one to the model, which knows what is leased.
func (s *series) anyScript(many int, seen map[string]int) []string {
	var lines []string
	m, says := impl.Market{Next: 1}, ""
	for len(lines) < many {
		line := s.anyLine(m)
		lines = append(lines, line)
		if isWordless(line) {
			continue
		}
		m, says = modelLine(m, line)
		seen[sortOf(line, says)]++
	}
	return lines
}

// sortOf is which line of the table it was and what it was told, but for numbers that differ from
// market to market.
func sortOf(line string, says string) string {
	word, _ := lineIn(line)
	answer := strings.Fields(says)
	if answer[0] == "no" || word == "prove" {
		return strings.TrimSpace(word + ": " + says)
	}
	return word + ": " + answer[0]
}

var allSorts = []string{
	": what",
	"submit: ok", "submit: no 2", "submit: no 3",
	"lease: ok", "lease: no 2", "lease: no 4", "lease: no 5", "lease: no 6",
	"tick: ok", "tick: no 2",
	"cancel: ok", "cancel: no 2", "cancel: no 4", "cancel: no 8",
	"prove: ok 0", "prove: ok 1", "prove: no 2", "prove: no 4", "prove: no 5", "prove: no 8",
	"forge: no 2", "forge: no 4", "forge: no 5", "forge: no 7", "forge: no 8",
	"status: status", "status: no", "result: result", "result: no",
	"calm: ok", "calm: no", "banned: banned",
}

func TestWalksThroughScripts(t *testing.T) {
	s, seen := series(181), map[string]int{}
	for turn := range 1000 {
		lines := s.anyScript(20+int(s.upTo(21)), seen)
		text := scriptOf(lines)
		wantSaid(t, fmt.Sprint("script ", turn), text, modelScript(text))
		if turn%10 == 0 {
			wantStays(t, fmt.Sprint("script ", turn), lines)
		}
	}
	for _, sort := range allSorts {
		if seen[sort] < 5 {
			t.Errorf("%q was seen %d times only", sort, seen[sort])
		}
	}
	for sort, many := range seen {
		if !slices.Contains(allSorts, sort) {
			t.Errorf("%q was seen %d times", sort, many)
		}
	}
}

// TestMoreLinesBehind: whatever stands behind a script, what it said stays said, up to the limits.
func TestMoreLinesBehind(t *testing.T) {
	s, seen := series(182), map[string]int{}
	for turn := range 60 {
		first := s.anyScript(int(s.upTo(21)), seen)
		said := impl.RunScript(scriptOf(first))
		for range 4 {
			more := s.anyScript(int(s.upTo(20)), seen)
			both := impl.RunScript(scriptOf(first) + scriptOf(more))
			if !strings.HasPrefix(both, said) {
				t.Fatalf("script %d: %q said %q; with %q behind it %q", turn, first, said, more, both)
			}
		}
		fill := scriptOf(first) + strings.Repeat("\n", 40-len(first))
		wantSaid(t, "filled up with lines", fill, said)
		wantSaid(t, "one line too many", fill+"\n", tooLong)
		wide := scriptOf(first)
		wide += strings.Repeat(" ", 3999-len(wide)) + "\n"
		wantSaid(t, "filled up with bytes", wide, said)
		wantSaid(t, "one byte too many", " "+wide, tooLong)
	}
}

func (s *series) anyAsk() string {
	switch s.upTo(3) {
	case 0:
		return fmt.Sprint("status ", s.upTo(8))
	case 1:
		return fmt.Sprint("result ", s.upTo(8))
	}
	return "banned"
}

// TestLinesThatAskChangeNothing puts one behind the other between the lines of a script, and leaves
// out of what is said what they say.
func TestLinesThatAskChangeNothing(t *testing.T) {
	s, seen := series(183), map[string]int{}
	for turn := range 150 {
		lines := s.anyScript(1+int(s.upTo(20)), seen)
		var mixed []string
		var isAsk []bool
		for _, line := range lines {
			// The lines still have room behind these.
			for s.upTo(3) > 0 && len(mixed) < 40-len(lines) {
				mixed, isAsk = append(mixed, s.anyAsk()), append(isAsk, true)
			}
			mixed = append(mixed, line)
			if !isWordless(line) {
				isAsk = append(isAsk, false)
			}
		}
		got := ""
		for i, says := range strings.SplitAfter(impl.RunScript(scriptOf(mixed)), "\n") {
			if i < len(isAsk) && !isAsk[i] {
				got += says
			}
		}
		if want := impl.RunScript(scriptOf(lines)); got != want {
			t.Fatalf("script %d: %q said %q, and %q among %q", turn, lines, want, got, mixed)
		}
		wantUnmoved(t, fmt.Sprint("script ", turn), lines, int(s.upTo(int64(len(lines)+1))), s.anyAsk())
	}
}

// TestAScriptLeavesNothingBehind: each one begins with an empty market, whatever was said ahead.
func TestAScriptLeavesNothingBehind(t *testing.T) {
	s, seen := series(184), map[string]int{}
	first := "submit 2 1 0 0 " + fibRules + "\nbanned\nlease 1\nprove 1 1 0\n"
	for range 30 {
		impl.RunScript(scriptOf(s.anyScript(40, seen)))
		wantSaid(t, "behind another script", first, "ok 1\nbanned\nok 100\nok 1\n")
		impl.RunScript("lease 1\nforge 1 1 0\nbanned")
		wantSaid(t, "behind one that is too long", "banned\nstatus 1\n", "banned\nno\n")
	}
}

func TestTheSameScriptBesideOthers(t *testing.T) {
	s, seen := series(185), map[string]int{}
	var scripts, want []string
	for range 16 {
		text := scriptOf(s.anyScript(40, seen))
		scripts, want = append(scripts, text), append(want, impl.RunScript(text))
	}
	wrong := make(chan string)
	for i := range 64 {
		go func() {
			text := scripts[i%16]
			if got := impl.RunScript(text); got != want[i%16] {
				wrong <- fmt.Sprintf("%q says %q, and beside others %q", text, want[i%16], got)
				return
			}
			wrong <- ""
		}()
	}
	for range 64 {
		if told := <-wrong; told != "" {
			t.Error(told)
		}
	}
}

func TestAScriptLeavesNobodyBehind(t *testing.T) {
	before := runtime.NumGoroutine()
	for range 100 {
		impl.RunScript("submit 2 2 0 0 " + fibRules + "\ncalm 1\ncalm 0\nlease 1\ncalm 2\n")
	}
	// One that has said it is done may need a moment to be gone.
	for turn := 0; turn < 1000000 && runtime.NumGoroutine() > before; turn++ {
		runtime.Gosched()
	}
	if after := runtime.NumGoroutine(); after > before {
		t.Errorf("%d goroutines before, %d behind", before, after)
	}
}

// TestAnyBytes: whatever the bytes are, there is an answer, and it is the model's.
func TestAnyBytes(t *testing.T) {
	s := series(186)
	signs := []string{"\n", "\n", " ", " ", " ", "0", "1", "2", "9", "lease", "tick", "banned", "calm", "status", "result", "cancel", "prove 1 1 0", "submit 2 1 1 1 " + fibRules, "\t", "\r", "\x00", "\xff", "é", "-", "x"}
	for range 3000 {
		text := ""
		for range s.upTo(60) {
			text += signs[s.upTo(int64(len(signs)))]
		}
		if s.upTo(4) > 0 {
			text += "\n"
		}
		wantSaid(t, "any words", text, modelScript(text))
		raw := make([]byte, s.upTo(80))
		for i := range raw {
			raw[i] = byte(s.upTo(256))
		}
		wantSaid(t, "any bytes", string(raw)+"\n", modelScript(string(raw)+"\n"))
	}
}
