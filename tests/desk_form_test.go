package tests

import (
	"math/rand/v2"
	"slices"
	"strings"
	"testing"

	"loop.example/g00658/impl"
)

// wrongAt is the result for a script whose first wrong line has an index.
func wrongAt(line int) impl.DeskOut {
	return impl.DeskOut{Line: int64(line), Code: impl.ErrSyntax}
}

// rightLines has well-formed lines of each word.
func rightLines() []string {
	return []string{
		"submit 0: 1 1 0", "submit 1: 0 0 0", "submit 3:abc 999999999 999999999 999999999", "submit 2:a 10 100 12345",
		"done 0: 1", "done 3:abc 999999999", "hold 1:ac 0", "hold 0: 2", "wait 2:bc 123456789", "wait 0: 3",
		"tick 0", "tick 1", "tick 9", "tick 10", "tick 19", "tick 20", "tick 30", "see 0:", "see 3:abc", "plan 0:", "plan 1:b",
	}
}

// wrongLines has lines that are wrong in one way each, without their line feed.
func wrongLines() []string {
	return []string{
		// No words, or words that are not separated by single spaces.
		"", " ", "  ", " see 0:", "see 0: ", "see  0:", "see", "see ", " tick 1", "tick 1 ", "tick  1", "tick 1  ", "submit 0: 1  1 0", "submit  0: 1 1 0",
		"submit 0: 1 1 0 ", "submit 0: 1 1  0", "\tsee 0:", "see\t0:", "see 0:\t", "see 0:\r", "\rsee 0:", "see\v0:", "see\u00a00:", "see\x000:", "see 0:\x00",
		// Too few words.
		"submit", "submit 0:", "submit 0: 1", "submit 0: 1 1", "submit 1 1 0", "done", "done 0:", "done 1", "hold", "hold 0:", "hold 1", "wait", "wait 0:", "wait 1",
		"tick", "plan",
		// Too many words.
		"submit 0: 1 1 0 0", "submit 0: 0: 1 1 0", "done 0: 1 1", "done 0: 0: 1", "hold 0: 1 1", "hold 0: 1 ok", "wait 0: 1 1", "wait 0: 1 0:",
		"tick 1 1", "tick 0: 1", "tick 1 0:", "see 0: 0:", "see 0: 1", "plan 0: 1:", "plan 0: 0",
		// The words in another order.
		"submit 1 0: 1 0", "submit 1 1 0 0:", "done 1 0:", "hold 1 0:", "wait 1 0:", "1 tick", "0: see", "0: plan",
		// Words with which no line begins.
		"x", "list 0:", "quit", "advance 1", "sub 0: 1 1 0", "submits 0: 1 1 0", "submi 0: 1 1 0", "don 0: 1", "done: 0: 1", "held 0: 1", "hol 0: 1", "waits 0: 1",
		"ticks 1", "tic 1", "se 0:", "seen 0:", "plans 0:", "pla 0:", "0:", "1", "#", "-", "error 6", "now 1", "ok", "see0:", "tick1", "done\x00 0: 1",
		// Capital letters.
		"Submit 0: 1 1 0", "SUBMIT 0: 1 1 0", "Done 0: 1", "doNe 0: 1", "Hold 0: 1", "holD 0: 1", "Wait 0: 1", "WAIT 0: 1", "Tick 1", "ticK 1", "See 0:", "sEe 0:",
		"Plan 0:", "PLAN 0:", "see 2:A", "\uff53ee 0:",
		// More than 30 steps.
		"tick 31", "tick 32", "tick 39", "tick 40", "tick 99", "tick 100", "tick 300", "tick 999999999",
	}
}

// wrongDecimals has texts that are no numbers of a script.
func wrongDecimals() []string {
	return []string{
		"00", "01", "001", "007", "010", "000000000", "0000000001", "0123456789", "-1", "-0", "+1", "+0", "--1", "- 1", "1-", "1+",
		"1000000000", "1234567890", "9999999999", "2147483648", "9223372036854775807", "9223372036854775808", "18446744073709551617", strings.Repeat("1", 40),
		"x", "a", "1a", "a1", "0x1", "0b1", "0o1", "1_0", "1.0", "1.", ".1", "1e1", "1,0", "1:", "0:", "''", "one", "\uff11", "\u0661", "\u00b9", "1\x00", "\x001", "\xff", "NaN", "inf",
	}
}

// wrongTexts has texts that are no labels.
func wrongTexts() []string {
	return []string{
		":", "0", "1", "a", "1a", ":a", "1:ba", "1:ca", "1:cb", "1:acb", "1:cba", "1:aa", "1:abb", "1:abca", "1:d", "1:abcd", "1:A", "1:AB", "4:", "4:a", "9:", "-1:", "-1:a",
		"+1:", "00:", "01:a", "10:", "1::", "1:a:", "1;", "1:,", "1:a,b", "1:1", "x:", "\uff11:", "1:\u0430", "1\uff1a", "1:\xff", "0:\x00",
	}
}

// withRight lays a text behind n well-formed lines.
func withRight(n int, text string) string {
	return strings.Repeat("see 0:\n", n) + text
}

// wantLine expects that a line is well formed, or wrong, wherever it stands; its line feed is not in it.
func wantLine(t *testing.T, line string, right bool) {
	t.Helper()
	for _, n := range []int{0, 1, 7, impl.MaxDesk - 1} {
		for _, rest := range []string{"", "see 0:\n", "\n", "x"} {
			text := withRight(n, script(line)+rest)
			want := wrongAt(n)
			if right {
				want = plainDeskRun(text)
			}
			wantScript(t, text, want)
		}
	}
	if out := impl.DeskFault(script(line)); right != (out == impl.DeskOut{}) {
		t.Errorf("the line %q alone: %+v", line, out)
	}
}

func TestDeskLines(t *testing.T) {
	for _, line := range rightLines() {
		wantLine(t, line, true)
	}
	for _, line := range wrongLines() {
		wantLine(t, line, false)
	}
}

// numberPlaces has the lines around each number of each word.
func numberPlaces() [][2]string {
	return [][2]string{{"submit 0: ", " 1 0"}, {"submit 1: 1 ", " 0"}, {"submit 2:a 1 1 ", ""}, {"done 0: ", ""}, {"hold 1: ", ""}, {"wait 3:abc ", ""}}
}

func TestDeskNumbers(t *testing.T) {
	for _, place := range append(numberPlaces(), [2]string{"tick ", ""}) {
		for _, num := range []string{"0", "1", "9", "10", "29", "30"} {
			wantLine(t, place[0]+num+place[1], true)
		}
		for _, num := range wrongDecimals() {
			wantLine(t, place[0]+num+place[1], false)
		}
	}
	for _, place := range numberPlaces() {
		for _, num := range []string{"31", "99", "100", "1000", "10000", "12345678", "100000000", "123456789", "987654321", "999999999"} {
			wantLine(t, place[0]+num+place[1], true)
		}
	}
}

func TestDeskLabels(t *testing.T) {
	for _, place := range [][2]string{{"submit ", " 1 1 0"}, {"done ", " 1"}, {"hold ", " 1"}, {"wait ", " 1"}, {"see ", ""}, {"plan ", ""}} {
		for text := range labelTexts() {
			wantLine(t, place[0]+text+place[1], true)
		}
		for _, text := range wrongTexts() {
			wantLine(t, place[0]+text+place[1], false)
		}
	}
}

// TestDeskLineLimit has scripts on both sides of the limit; what is wrong before it is told first.
func TestDeskLineLimit(t *testing.T) {
	for n := range impl.MaxDesk + 1 {
		wantScript(t, withRight(n, ""), impl.DeskOut{Text: strings.Repeat("-\n", n)})
	}
	for _, rest := range []string{"see 0:\n", "see 0:", "x\n", "\n", "x", " ", "see 0:\nsee 0:\n", "see 0:\nx", "\n\n"} {
		wantScript(t, withRight(impl.MaxDesk, rest), wrongAt(impl.MaxDesk))
		wantScript(t, withRight(impl.MaxDesk-1, "x\n"+rest), wrongAt(impl.MaxDesk-1))
		wantScript(t, withRight(3, "\n"+withRight(impl.MaxDesk, rest)), wrongAt(3))
	}
	for _, n := range []int{impl.MaxDesk + 1, 2 * impl.MaxDesk, 1000} {
		wantScript(t, withRight(n, ""), wrongAt(impl.MaxDesk))
	}
}

// TestDeskLineFeeds leaves out the last line feed, which ends a line and does not separate two.
func TestDeskLineFeeds(t *testing.T) {
	for _, line := range append(rightLines(), "x", " ", "see") {
		for n := range impl.MaxDesk + 1 {
			wantScript(t, withRight(n, line), wrongAt(n))
		}
		wantScript(t, withRight(impl.MaxDesk+1, line), wrongAt(impl.MaxDesk))
	}
	for _, ended := range []string{"\r", "\r\n", "\v", "\f", "\x00", "\u0085", "\u2028", ";", "\n\r"} {
		wantScript(t, "see 0:"+ended+"see 0:\n", plainDeskFault("see 0:"+ended+"see 0:\n"))
		wantScript(t, "see 0:"+ended, plainDeskFault("see 0:"+ended))
	}
}

// TestDeskEmptyLines has empty lines in all places.
func TestDeskEmptyLines(t *testing.T) {
	wantScript(t, "\n", wrongAt(0))
	wantScript(t, "\n\n", wrongAt(0))
	for n := range impl.MaxDesk + 1 {
		wantScript(t, withRight(n, "\n"), wrongAt(n))
		wantScript(t, withRight(n, "\nsee 0:\n"), wrongAt(n))
	}
}

// TestDeskTellsTheFirstFault has two wrong lines: their kinds do not matter, only their order does.
func TestDeskTellsTheFirstFault(t *testing.T) {
	wrong := wrongLines()
	for i, first := range wrong {
		second := wrong[(7*i+3)%len(wrong)]
		wantScript(t, withRight(i%5, script(first, second)), wrongAt(i%5))
		wantScript(t, withRight(i%5, script(first, "see 0:", second)), wrongAt(i%5))
		wantScript(t, withRight(i%5, script(first)+"see 0:"), wrongAt(i%5))
		wantScript(t, withRight(i%5, script(first)+withRight(impl.MaxDesk, "")), wrongAt(i%5))
	}
}

// TestDeskSizeLimit has texts on both sides of MaxBytes, which no well-formed script comes near.
func TestDeskSizeLimit(t *testing.T) {
	tooLong := impl.DeskOut{Code: impl.ErrSize}
	for _, n := range []int{0, 1, impl.MaxDesk - 1, impl.MaxDesk} {
		for _, fill := range []string{" ", "\n", "x", "0", "\x00", "see 0:\n"} {
			text := withRight(n, strings.Repeat(fill, impl.MaxBytes+1))
			want := wrongAt(n)
			if fill == "see 0:\n" {
				want = wrongAt(impl.MaxDesk)
			}
			wantScript(t, text[:impl.MaxBytes], want)
			wantScript(t, text[:impl.MaxBytes-1]+"\n", want)
			wantScript(t, text[:impl.MaxBytes+1], tooLong)
			wantScript(t, text[:impl.MaxBytes]+"\n", tooLong)
			wantScript(t, text, tooLong)
		}
	}
	for _, start := range []string{"tick ", "tick 1", "see 0:", "see ", "submit 0: 1 1 "} {
		text := start + strings.Repeat("1", impl.MaxBytes-len(start)-1) + "\n"
		wantScript(t, text, wrongAt(0))
		wantScript(t, text+"\n", tooLong)
	}
	longest := strings.Repeat("submit 3:abc 999999999 999999999 999999999\n", impl.MaxDesk)
	wantScript(t, longest, impl.DeskOut{Text: strings.Repeat("error 1\n", impl.MaxDesk)})
}

// TestDeskOfEveryCut ends a script after each of its bytes.
func TestDeskOfEveryCut(t *testing.T) {
	r := rand.New(rand.NewPCG(11, 4))
	for range 30 {
		text := script(mixedScript(r, impl.MaxDesk)...)
		for cut := range len(text) {
			want := wrongAt(strings.Count(text[:cut], "\n"))
			if strings.HasSuffix("\n"+text[:cut], "\n") {
				want = plainDeskRun(text[:cut])
			}
			wantScript(t, text[:cut], want)
		}
	}
}

// TestDeskOfChangedScripts changes, leaves out or puts in one byte at every place.
func TestDeskOfChangedScripts(t *testing.T) {
	r := rand.New(rand.NewPCG(11, 5))
	scripts := [][]string{{"submit 1: 2 9 0", "tick 10", "see 1:abc"}, {"hold 0: 1", "done 0: 1", "wait 2:b 1", "plan 3:"}}
	for range 3 {
		scripts = append(scripts, mixedScript(r, impl.MaxDesk/2))
	}
	for _, lines := range scripts {
		text := script(lines...)
		for i := range len(text) + 1 {
			for _, b := range []byte(" \n\t0123459:abcdstw-+#\x00\xff") {
				longer := string(slices.Insert([]byte(text), i, b))
				wantScript(t, longer, plainDeskRun(longer))
				if i < len(text) {
					other := text[:i] + string([]byte{b}) + text[i+1:]
					wantScript(t, other, plainDeskRun(other))
				}
			}
			if i < len(text) {
				shorter := text[:i] + text[i+1:]
				wantScript(t, shorter, plainDeskRun(shorter))
			}
		}
	}
}

// TestDeskOfMixedLines puts well-formed and wrong lines together.
func TestDeskOfMixedLines(t *testing.T) {
	r := rand.New(rand.NewPCG(11, 6))
	wrong := wrongLines()
	for range 1500 {
		lines := mixedScript(r, impl.MaxDesk+4)
		for range r.IntN(3) {
			lines = slices.Insert(lines, r.IntN(len(lines)+1), wrong[r.IntN(len(wrong))])
		}
		text := script(lines...)
		text = text[:len(text)-min(len(text), r.IntN(2)*r.IntN(2))]
		wantScript(t, text, plainDeskRun(text))
	}
}
