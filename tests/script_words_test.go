package tests

import (
	"fmt"
	"slices"
	"strings"
	"testing"

	"loop.example/g00319/impl"
)

const tooLong = "too long\n"

func TestNoBytesAtAll(t *testing.T) {
	wantSaid(t, "no bytes", "", "")
}

func TestLinesWithoutWords(t *testing.T) {
	for _, text := range []string{"\n", "\n\n", " \n", "   \n", "\n \n  \n\n", strings.Repeat("\n", 40), strings.Repeat("  \n", 40)} {
		wantSaid(t, "no words", text, "")
	}
	wantSaid(t, "lines with words between", "\n  \nbanned\n\n \nstatus 1\n\n", "banned\nno\n")
	wantStays(t, "lines with words between", []string{"", "  ", "banned", "", "lease 1", " "})
}

func TestJustMaxScriptLinesAndOneMore(t *testing.T) {
	for _, line := range []string{"banned\n", "  banned \n", "what\n", "\n", " \n", "status 1\n", "tick 1\n"} {
		says := modelScript(line)
		wantSaid(t, "one line less", strings.Repeat(line, 39), strings.Repeat(says, 39))
		wantSaid(t, "just as many", strings.Repeat(line, 40), strings.Repeat(says, 40))
		wantSaid(t, "one more", strings.Repeat(line, 41), tooLong)
		wantSaid(t, "many more", strings.Repeat(line, 200), tooLong)
		wantSaid(t, "one more without words", strings.Repeat(line, 40)+"\n", tooLong)
		wantSaid(t, "one more ahead", "\n"+strings.Repeat(line, 40), tooLong)
		wantSaid(t, "one more that is not ended", strings.Repeat(line, 40)+" ", tooLong)
	}
}

func TestJustMaxLinesBytesAndOneMore(t *testing.T) {
	wide := "banned" + strings.Repeat(" ", 93) + "\n"
	full := strings.Repeat(wide, 40)
	wantNumber(t, "bytes", int64(len(full)), 4000)
	wantSaid(t, "just as many lines and bytes", full, strings.Repeat("banned\n", 40))
	wantSaid(t, "one blank more", " "+full, tooLong)
	wantSaid(t, "one blank less", full[:3998]+"\n", strings.Repeat("banned\n", 40))
	for _, line := range []string{"", "banned", "lease 1", "fly", "1"} {
		for _, many := range []int{3998, 3999, 4000, 4001, 5000, 1 << 20} {
			text := line + strings.Repeat(" ", many-1-len(line)) + "\n"
			want := modelScript(line + "\n")
			if many > 4000 {
				want = tooLong
			}
			wantSaid(t, fmt.Sprint(many, " bytes in one line"), text, want)
			wantSaid(t, fmt.Sprint(many, " bytes, blanks ahead"), strings.Repeat(" ", many-1-len(line))+line+"\n", want)
		}
	}
	wantSaid(t, "one word of just MaxLines bytes", strings.Repeat("x", 3999)+"\n", "what\n")
	wantSaid(t, "one word of one byte more", strings.Repeat("x", 4000)+"\n", tooLong)
	wantSaid(t, "bytes are counted, not signs", strings.Repeat("é", 2000)+"\n", tooLong)
	wantSaid(t, "nine digits are not more with blanks", "status"+strings.Repeat(" ", 3983)+"999999999 \n", "no\n")
}

func TestALastLineThatIsNotEnded(t *testing.T) {
	for _, text := range []string{"banned", " ", "x", "\x00", "\r", "banned\nbanned", "banned\n ", "\n\nx", "lease 1\nlease 2", "banned\r", strings.Repeat("\n", 39) + " ", strings.Repeat("b", 4000)} {
		wantSaid(t, "not ended", text, tooLong)
	}
}

func TestBlanksAtBothEndsAndBetween(t *testing.T) {
	for _, f := range scriptForms {
		setUp := "submit 2 2 0 0 " + fibRules + "\nlease 1\n"
		want := impl.RunScript(setUp + lineOf(f.word, f.numbers) + "\n")
		for _, parted := range []string{" ", "  ", "     "} {
			for _, ahead := range []string{"", " ", "    "} {
				for _, behind := range []string{"", " ", "    "} {
					line := ahead + strings.Join(append([]string{f.word}, f.numbers...), parted) + behind
					wantSaid(t, "blanks", setUp+line+"\n", want)
				}
			}
		}
		wantSaid(t, "no blank", lineOf(f.word+"1", f.numbers)+"\n", "what\n")
	}
}

// noBlanks are white space to others, and some more signs that part nothing here.
var noBlanks = []string{"\t", "\r", "\v", "\f", "\x00", "\x1c", "\x1f", "\x7f", "\x85", "\xa0", "\u0085", "\u00a0", "\u2003", "\u2028", "\u3000", "\ufeff", "\x20\x0d", ",", ";", "\\n", "#"}

func TestOtherWhiteSpaceIsNoBlank(t *testing.T) {
	for _, sign := range noBlanks {
		wantSaid(t, "alone", sign+"\n", "what\n")
		wantSaid(t, "blanks around it", " "+sign+" \n", "what\n")
		for _, f := range scriptForms {
			line := lineOf(f.word, f.numbers)
			wantSaid(t, "ahead", sign+line+"\n", "what\n")
			wantSaid(t, "behind", line+sign+"\n", "what\n")
			wantSaid(t, "behind, with a blank", line+" "+sign+"\n", "what\n")
			if len(f.numbers) > 0 {
				wantSaid(t, "between", strings.Replace(line, " ", sign, 1)+"\n", "what\n")
				wantSaid(t, "between, beside a blank", strings.Replace(line, " ", " "+sign, 1)+"\n", "what\n")
			}
		}
	}
}

func TestWordsThatAreNone(t *testing.T) {
	for _, line := range []string{"fly", "0", "1", "submits", "Lease 1", "LEASE 1", "leas 1", "leasee 1", "return 1 1 0", "Banned", "BANNED", "banne", "lease1", "1 lease", "lease lease 1", "lease 1 lease", "what", "ok", "no", "too long", "submit", "\"banned\"", "bannéd", "\xff", "-", "+", "#banned", "//", "banned.", "calm,1"} {
		wantSaid(t, "no word", line+"\n", "what\n")
	}
	for _, f := range scriptForms {
		for _, word := range []string{strings.ToUpper(f.word), strings.ToUpper(f.word[:1]) + f.word[1:], f.word + "s", f.word[1:], f.word[:len(f.word)-1], f.word + "\x00", "\xef\xbb\xbf" + f.word} {
			wantSaid(t, "another word", lineOf(word, f.numbers)+"\n", "what\n")
		}
	}
}

var noDecimals = []string{"00", "01", "000", "007", "0000000001", "012345678", "1000000000", "9999999999", "2147483648", "4294967297", "9223372036854775808", "18446744073709551617", "99999999999999999999999999",
	"+1", "-1", "+0", "-0", "--1", "1-", "1+", "-", "+", "x", "1x", "x1", "0x1", "0b1", "0o1", "1_0", "1.0", "1.", ".1", "1e0", "1,0", "1/1", "1:", "a", "I", "l", "O", "١", "１", "²", "\x001", "1\x00", "1\t", "lease"}

// wantWhat says that a line is none of the table's, and that nothing has come of it.
func wantWhat(t *testing.T, what string, line string) {
	t.Helper()
	lines := []string{"submit 2 2 0 0 " + fibRules, "lease 1", line, "banned", "status 1", "lease 1", "lease 2", "submit 4 1 1 1 " + fibRules, "prove 1 1 0"}
	wantSaid(t, what, scriptOf(lines), "ok 1\nok 100\nwhat\nbanned\nstatus 0 2\nno 6\nok 101\nok 2\nok 0\n")
	wantUnmoved(t, what, slices.Delete(slices.Clone(lines), 2, 3), 2, line)
}

func TestNumbersThatAreNotInDecimal(t *testing.T) {
	for _, f := range scriptForms {
		for place := range f.numbers {
			for _, number := range noDecimals {
				numbers := slices.Clone(f.numbers)
				numbers[place] = number
				wantWhat(t, fmt.Sprintf("%s with %q at %d", f.word, number, place), lineOf(f.word, numbers))
			}
		}
	}
}

func TestNumbersThatAreInDecimal(t *testing.T) {
	for _, f := range scriptForms {
		for place := range f.numbers {
			for _, number := range []string{"0", "1", "9", "10", "100", "65536", "65537", "123456789", "100000000", "987654320", "999999999"} {
				numbers := slices.Clone(f.numbers)
				numbers[place] = number
				text := "submit 2 2 0 0 " + fibRules + "\nlease 1\n" + lineOf(f.word, numbers) + "\n"
				if strings.Contains(impl.RunScript(text), "what") {
					t.Errorf("%s with %s at %d is not known", f.word, number, place)
				}
				wantSaid(t, "a number", text, modelScript(text))
			}
		}
	}
}

// TestEachDigitCounts: numbers go in and come out as they are.
func TestEachDigitCounts(t *testing.T) {
	for _, n := range []int64{0, 1, 2, 3, 4, 5, 6, 7, 8, 9, 10, 11, 90, 99, 100, 101, 1234, 5678, 9012, 10000, 34567, 60000, 65535, 65536} {
		wantSaid(t, "a number", fmt.Sprintf("submit 2 1 0 0 0 0 0 0 0 %d 0 0 0 0 0 %d\ncalm 1\nresult 1\n", n, mod(n+7)), fmt.Sprintf("ok 1\nok\nresult %d %d 1\n", n, mod(n+7)))
	}
	for tick := int64(1); tick < latest; tick = tick*10 + 1 {
		// A calm is told by time alone here: just MaxTime - 2 Term is in time.
		wantSaid(t, "in time", fmt.Sprintf("tick %d\ntick %d\ncalm 1\n", tick, latest-10-tick), "ok 0\nok 0\nok\n")
		wantSaid(t, "too late", fmt.Sprintf("tick %d\ntick %d\ncalm 1\n", tick, latest-9-tick), "ok 0\nok 0\nno\n")
	}
}

func TestWordsThatAreMissingOrTooMany(t *testing.T) {
	for _, f := range scriptForms {
		for many := range len(f.numbers) + 4 {
			if many == len(f.numbers) {
				continue
			}
			for _, number := range []string{"0", "1", "2", "x"} {
				numbers := slices.Clone(f.numbers[:min(many, len(f.numbers))])
				for len(numbers) < many {
					numbers = append(numbers, number)
				}
				wantWhat(t, fmt.Sprint(f.word, " with ", many, " numbers"), lineOf(f.word, numbers))
			}
		}
	}
}
