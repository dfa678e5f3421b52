package tests

import (
	"slices"
	"strings"
	"testing"

	"loop.example/g00658/impl"
)

func TestDeskWords(t *testing.T) {
	words := impl.DeskWords()
	if !slices.Equal(words, []string{"done", "hold", "plan", "see", "submit", "tick", "wait"}) {
		t.Errorf("DeskWords() = %q", words)
	}
	if !slices.IsSorted(words) {
		t.Errorf("%q are not in increasing order", words)
	}
}

// TestDeskWordsBeginLines tries the words, and all short ones beside them, with everything that may follow one of them.
func TestDeskWordsBeginLines(t *testing.T) {
	others := []string{"", "x", "submi", "submits", "sees", "tic", "Tick", "don", "don\u0435", "wait:", "plan#"}
	for first := range 26 {
		for second := range 26 {
			for third := range 26 {
				others = append(others, string([]byte{'a' + byte(first), 'a' + byte(second), 'a' + byte(third)}))
			}
		}
	}
	for _, word := range append(impl.DeskWords(), others...) {
		begins := false
		for _, rest := range []string{"", " 0:", " 1", " 0: 1", " 0: 1 1 0"} {
			begins = begins || impl.DeskFault(word+rest+"\n").Code == impl.OK
		}
		if begins != slices.Contains(impl.DeskWords(), word) {
			t.Errorf("a line may begin with %q: %v", word, begins)
		}
	}
}

// TestDeskWordsSharesNoMemory writes to a result, also behind its end: the next one is not changed by that, and no script is.
func TestDeskWordsSharesNoMemory(t *testing.T) {
	first, second := impl.DeskWords(), impl.DeskWords()
	want := strings.Join(second, " ")
	for i := range first {
		first[i] = "spoilt"
	}
	for len(first) < cap(first) {
		first = append(first, "spoilt")
	}
	if got := strings.Join(second, " "); got != want {
		t.Errorf("a written result changes another one to %q", got)
	}
	if got := strings.Join(impl.DeskWords(), " "); got != want {
		t.Errorf("a written result changes the next one to %q", got)
	}
	wantScript(t, "see 0:\ntick 1\n", impl.DeskOut{Text: "-\nnow 1\n"})
	wantScript(t, "spoilt 0:\n", wrongAt(0))
}

// TestDeskKeepsNoState runs a script between two runs of another one.
func TestDeskKeepsNoState(t *testing.T) {
	text := script("submit 0: 1 2 0", "tick 2", "see 0:")
	for _, other := range []string{"", "x", script("submit 0: 3 9 9", "tick 30"), script("submit 0: 1 1 0", "hold 0: 1"), text} {
		wantScript(t, text, impl.DeskOut{Text: "1\nnow 2\n0:#1=r1\n"})
		impl.DeskRun(other)
		impl.DeskFault(other)
		wantScript(t, text, impl.DeskOut{Text: "1\nnow 2\n0:#1=r1\n"})
	}
}
