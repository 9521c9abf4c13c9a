package tests

import (
	"fmt"
	"regexp"
	"slices"
	"strconv"
	"strings"
	"testing"

	"loop.example/g00319/impl"
)

const fibRules = "0 0 0 0 1 0 0 0 0 1 1 0"

// scriptForm is a line of the table, with numbers that are right in a market with the job 1.
type scriptForm struct {
	word    string
	numbers []string
}

var scriptForms = []scriptForm{
	{"submit", strings.Fields("4 2 1 1 " + fibRules)},
	{"lease", []string{"2"}},
	{"tick", []string{"1"}},
	{"cancel", []string{"1"}},
	{"prove", []string{"1", "1", "0"}},
	{"forge", []string{"1", "1", "0"}},
	{"status", []string{"1"}},
	{"result", []string{"1"}},
	{"calm", []string{"1"}},
	{"banned", nil},
}

// lineOf is a line without its line feed.
func lineOf(word string, numbers []string) string {
	return strings.Join(append([]string{word}, numbers...), " ")
}

// formPatterns say by word what a line of the table looks like, blanks and all.
var formPatterns = func() map[string]*regexp.Regexp {
	out := map[string]*regexp.Regexp{}
	for _, f := range scriptForms {
		numbers := strings.Repeat(" +(0|[1-9][0-9]{0,8})", len(f.numbers))
		out[f.word] = regexp.MustCompile("^ *" + f.word + numbers + " *$")
	}
	return out
}()

// lineIn is the word and the numbers of a line; no word when the line is none of the table's.
func lineIn(line string) (string, []int64) {
	for word, pattern := range formPatterns {
		if found := pattern.FindStringSubmatch(line); found != nil {
			var numbers []int64
			for _, digits := range found[1:] {
				n, _ := strconv.ParseInt(digits, 10, 64)
				numbers = append(numbers, n)
			}
			return word, numbers
		}
	}
	return "", nil
}

func isWordless(line string) bool { return strings.Trim(line, " ") == "" }

// modelLine is what a line with words makes of a market and says, reckoned without the program.
func modelLine(m impl.Market, line string) (impl.Market, string) {
	word, n := lineIn(line)
	switch word {
	case "submit":
		return modelSaid(m, submitOf(machineOf(n[4:]), impl.State{X: n[2], Y: n[3]}, n[0], n[1]))
	case "lease":
		return modelSaid(m, leaseBy(n[0]))
	case "tick":
		return modelSaid(m, tickOf(n[0]))
	case "cancel":
		return modelSaid(m, cancelOf(n[0]))
	case "prove":
		var p impl.Proof
		if place := jobAt(m, n[1]); place >= 0 && n[2] < 8 {
			p = proofFor(m.Jobs[place], n[2])
		}
		return modelSaid(m, returnBy(n[0], n[1], n[2], p))
	case "forge":
		return modelSaid(m, returnBy(n[0], n[1], n[2], impl.Proof{}))
	case "calm":
		if after, ok := calmRight(m, n[0]); ok {
			return after, "ok"
		}
		return m, "no"
	case "banned":
		return m, strings.TrimRight("banned "+strings.Trim(fmt.Sprint(m.Banned), "[]"), " ")
	case "status", "result":
		return m, modelAsked(m, word, n[0])
	}
	return m, "what"
}

func modelSaid(m impl.Market, a impl.MAct) (impl.Market, string) {
	after, code, told := modelActed(m, a)
	if code != 0 {
		return after, fmt.Sprint("no ", code)
	}
	return after, fmt.Sprint("ok ", told)
}

func modelAsked(m impl.Market, word string, id int64) string {
	place := jobAt(m, id)
	if place < 0 {
		return "no"
	}
	j := m.Jobs[place]
	many, undone := int64(len(j.Tasks)), int64(0)
	for _, task := range j.Tasks {
		if isUndone(task) {
			undone++
		}
	}
	if word == "status" {
		return fmt.Sprint("status ", many-undone, " ", many)
	}
	if undone > 0 {
		return "no"
	}
	end := stateAt(j, many)
	return fmt.Sprint("result ", end.X, " ", end.Y, " ", many*(j.Rows-1))
}

// modelScript is RunScript, reckoned without the program.
func modelScript(text string) string {
	lines := strings.SplitAfter(text, "\n")
	ended := lines[:len(lines)-1]
	if len(text) > 4000 || len(ended) > 40 || text != strings.Join(ended, "") {
		return "too long\n"
	}
	m, out := impl.Market{Next: 1}, ""
	for _, line := range ended {
		says := ""
		if line = strings.TrimSuffix(line, "\n"); isWordless(line) {
			continue
		}
		m, says = modelLine(m, line)
		out += says + "\n"
	}
	return out
}

// scriptOf ends each line.
func scriptOf(lines []string) string {
	out := ""
	for _, line := range lines {
		out += line + "\n"
	}
	return out
}

// wantSaid holds what a script says, twice, against what is told to be the answer and against the model.
func wantSaid(t *testing.T, what string, text string, want string) {
	t.Helper()
	if model := modelScript(text); model != want {
		t.Fatalf("%s: the model says %q to %q, the test %q", what, model, text, want)
	}
	for range 2 {
		if got := impl.RunScript(text); got != want {
			t.Fatalf("%s: %q says %q, wanted %q", what, text, got, want)
		}
	}
}

// wantStays says that each beginning of a script said what the whole of it says at first.
func wantStays(t *testing.T, what string, lines []string) {
	t.Helper()
	whole := strings.SplitAfter(impl.RunScript(scriptOf(lines)), "\n")
	words := 0
	for many := range len(lines) + 1 {
		want := strings.Join(whole[:words], "")
		if got := impl.RunScript(scriptOf(lines[:many])); got != want {
			t.Fatalf("%s: the first %d lines of %q say %q, and %q with more behind them", what, many, lines, got, want)
		}
		if many < len(lines) && !isWordless(lines[many]) {
			words++
		}
	}
}

// wantUnmoved says that a line put in at a place changes nothing of what the others say. The line has words.
func wantUnmoved(t *testing.T, what string, lines []string, place int, line string) {
	t.Helper()
	ahead := 0
	for _, l := range lines[:place] {
		if !isWordless(l) {
			ahead++
		}
	}
	said := strings.SplitAfter(impl.RunScript(scriptOf(slices.Insert(slices.Clone(lines), place, line))), "\n")
	if len(said) <= ahead {
		t.Fatalf("%s: %q at %d of %q: %q", what, line, place, lines, said)
	}
	if got, want := strings.Join(slices.Delete(said, ahead, ahead+1), ""), impl.RunScript(scriptOf(lines)); got != want {
		t.Fatalf("%s: with %q at %d %q says %q, without it %q", what, line, place, lines, got, want)
	}
}

// wantTalk wants, in each line of the talk, a line of a script, an arrow, and what it says. Whatever
// is promised of a script is held against it, too.
func wantTalk(t *testing.T, what string, talk string) {
	t.Helper()
	var lines, says []string
	for _, row := range strings.Split(strings.Trim(talk, "\n\t"), "\n") {
		line, said, ok := strings.Cut(row, " -> ")
		if !ok {
			t.Fatalf("%s: no arrow in %q", what, row)
		}
		lines, says = append(lines, strings.TrimLeft(line, "\t")), append(says, said)
	}
	wantSaid(t, what, scriptOf(lines), scriptOf(says))
	wantStays(t, what, lines)
	if len(lines) == impl.MaxScript {
		return
	}
	for place := range len(lines) + 1 {
		for _, line := range []string{"status 1", "result 1", "banned", "status 999999999", "result 2", "what"} {
			wantUnmoved(t, what, lines, place, line)
		}
	}
}
