package tests

import (
	"math/rand/v2"
	"strconv"
	"strings"
	"testing"

	"loop.example/g00658/impl"
)

// TestDeskExamples has the examples of chapter 9.
func TestDeskExamples(t *testing.T) {
	wantScript(t, "submit 1: 2 9 0\ntick 1\nsee 1:\nsee 0:\n", impl.DeskOut{Text: "1\nnow 1\n1:#1=r1\n-\n"})
	wantScript(t, "see 0:\nsee 0\n", impl.DeskOut{Line: 1, Code: impl.ErrSyntax})
}

// TestDeskPrintsOneLineForEachLine is promise 11, on scripts of any length; all of their operations are compared with the model, too.
func TestDeskPrintsOneLineForEachLine(t *testing.T) {
	r := rand.New(rand.NewPCG(11, 1))
	for range 2500 {
		lines := mixedScript(r, impl.MaxDesk)
		got := impl.DeskRun(script(lines...))
		if got.Code != impl.OK || strings.Count(got.Text, "\n") != len(lines) || !strings.HasSuffix("\n"+got.Text, "\n") {
			t.Errorf("%d lines: code %d, %q", len(lines), got.Code, got.Text)
		}
		for output := range strings.Lines(got.Text) {
			if strings.TrimSpace(output)+"\n" != output || output == "\n" {
				t.Errorf("%q: the output %q is not one of words", lines, output)
			}
		}
		wantScript(t, script(lines...), plainDeskRun(script(lines...)))
	}
}

// TestDeskGoesOnLineByLine runs the first lines of a script: their outputs are the first ones of the whole script.
func TestDeskGoesOnLineByLine(t *testing.T) {
	r := rand.New(rand.NewPCG(11, 2))
	for range 60 {
		lines := mixedScript(r, impl.MaxDesk)
		whole := strings.SplitAfter(impl.DeskRun(script(lines...)).Text, "\n")
		for n := range len(lines) + 1 {
			wantScript(t, script(lines[:n]...), impl.DeskOut{Text: strings.Join(whole[:n], "")})
		}
	}
}

func TestDeskOfNoLine(t *testing.T) {
	wantScript(t, "", impl.DeskOut{})
}

func TestDeskOfEachWord(t *testing.T) {
	for line, output := range map[string]string{
		"submit 1: 2 9 0": "1", "done 0: 1": "error 6", "hold 0: 1": "error 6", "wait 0: 1": "error 6",
		"tick 7": "now 7", "see 1:": "-", "plan 1:": "-",
	} {
		wantDialog(t, exchange{line, output})
	}
	wantDialog(t,
		exchange{"submit 1: 2 9 0", "1"},
		exchange{"plan 1:", "1:#1@0"},
		exchange{"see 1:", "1:#1=w"},
		exchange{"tick 1", "now 1"},
		exchange{"see 1:", "1:#1=r1"},
		exchange{"hold 1: 1", "ok"},
		exchange{"see 1:", "1:#1=h"},
		exchange{"plan 1:", "-"},
		exchange{"wait 1: 1", "ok"},
		exchange{"see 1:", "1:#1=w"},
		exchange{"plan 1:", "1:#1@1"},
		exchange{"done 1: 1", "ok"},
		exchange{"see 1:", "1:#1=d"},
		exchange{"plan 1:", "-"},
	)
}

// TestDeskCountsIdsByLabel submits as many jobs of each label as there may be, and one more.
func TestDeskCountsIdsByLabel(t *testing.T) {
	wantDialog(t,
		exchange{"submit 0: 1 1 0", "1"}, exchange{"submit 1: 1 1 0", "1"}, exchange{"submit 0: 1 1 0", "2"},
		exchange{"submit 2:a 1 1 0", "1"}, exchange{"submit 1: 1 1 0", "2"}, exchange{"submit 0: 1 1 0", "3"},
		exchange{"submit 0: 1 1 0", "error 9"}, exchange{"submit 2:a 1 1 0", "2"}, exchange{"submit 2:a 1 1 0", "3"},
		exchange{"submit 2:a 1 1 0", "error 9"}, exchange{"submit 1: 1 1 0", "3"}, exchange{"submit 1: 1 1 0", "error 9"},
		exchange{"done 0: 3", "ok"}, exchange{"submit 0: 1 1 0", "error 9"},
		exchange{"see 3:abc", "0:#1=w 0:#2=w 0:#3=d 1:#1=w 1:#2=w 1:#3=w 2:a#1=w 2:a#2=w 2:a#3=w"},
	)
}

// TestDeskClearances asks for nodes of each label: three are cleared for 0:, two for 1:, one for 2:a, and none for any other.
func TestDeskClearances(t *testing.T) {
	cleared := map[string]int{"0:": 3, "1:": 2, "2:a": 1}
	for text := range labelTexts() {
		for need := 1; need <= 6; need++ {
			output := "1"
			if need > cleared[text] {
				output = "error 11"
			}
			wantDialog(t, exchange{"submit " + text + " " + strconv.Itoa(need) + " 1 0", output})
		}
	}
	wantDialog(t, exchange{"submit 2:a 1 9 0", "1"}, exchange{"submit 1: 1 9 0", "1"}, exchange{"submit 0: 1 9 0", "1"}, exchange{"tick 1", "now 1"},
		exchange{"see 3:abc", "0:#1=r1 1:#1=r1 2:a#1=w"}, exchange{"plan 2:a", "0:#1@1 1:#1@1 2:a#1@10"})
}

// TestDeskGoesOnAfterErrors has every code that an operation of a script can give. Change cannot give ErrForm, and Advance no error: a script does not get to the last current time.
func TestDeskGoesOnAfterErrors(t *testing.T) {
	wantDialog(t,
		exchange{"submit 0: 0 1 0", "error 1"}, exchange{"submit 0: 7 1 0", "error 1"}, exchange{"submit 0: 999999999 1 0", "error 1"},
		exchange{"submit 0: 1 0 0", "error 1"}, exchange{"submit 0: 1 21 0", "error 1"}, exchange{"submit 0: 1 999999999 0", "error 1"},
		exchange{"submit 0: 1 1 10", "error 1"}, exchange{"submit 0: 1 1 999999999", "error 1"},
		exchange{"see 0:", "-"},
		exchange{"submit 0: 4 1 0", "error 11"}, exchange{"submit 1: 3 1 0", "error 11"}, exchange{"submit 2:a 2 1 0", "error 11"},
		exchange{"submit 3:abc 1 1 0", "error 11"}, exchange{"submit 3:abc 7 1 0", "error 1"},
		exchange{"submit 0: 3 20 9", "1"}, exchange{"submit 0: 1 1 0", "2"}, exchange{"submit 0: 1 1 5", "3"},
		exchange{"submit 0: 1 1 0", "error 9"}, exchange{"submit 0: 4 1 0", "error 11"}, exchange{"submit 0: 1 0 0", "error 1"},
		exchange{"hold 0: 4", "error 6"}, exchange{"wait 0: 1", "error 10"},
		exchange{"tick 1", "now 1"},
		exchange{"see 0:", "0:#1=r1 0:#3=w 0:#2=w"},
	)
}

// TestDeskChanges changes jobs that are not there, and jobs in each of the states.
func TestDeskChanges(t *testing.T) {
	for _, word := range []string{"done", "hold", "wait"} {
		for _, rest := range []string{" 0: 0", " 0: 2", " 0: 3", " 0: 4", " 0: 999999999", " 1: 1", " 0:a 1", " 3:abc 1"} {
			wantDialog(t, exchange{"submit 0: 1 9 0", "1"}, exchange{word + rest, "error 6"}, exchange{"see 3:abc", "0:#1=w"})
		}
	}
	for _, before := range []struct{ lines, outputs, see string }{
		{"see 1:", "-", ""},
		{"submit 1: 1 9 0\ntick 0", "1\nnow 0", "w"},
		{"submit 1: 1 9 0\ntick 3", "1\nnow 3", "r1"},
		{"submit 1: 1 9 0\ndone 1: 1", "1\nok", "d"},
		{"submit 1: 1 9 0\nhold 1: 1", "1\nok", "h"},
	} {
		for word, state := range map[string]string{"done": "d", "hold": "h", "wait": "w"} {
			output, see := "ok", "1:#1="+state
			switch before.see {
			case "":
				output, see = "error 6", "-"
			case "d", state:
				output, see = "error 10", "1:#1="+before.see
			}
			wantScript(t, script(before.lines, word+" 1: 1", "see 1:"), impl.DeskOut{Text: script(before.outputs, output, see)})
		}
	}
}

func TestDeskTicks(t *testing.T) {
	for n := range 31 {
		wantDialog(t, exchange{"tick " + strconv.Itoa(n), "now " + strconv.Itoa(n)}, exchange{"tick 0", "now " + strconv.Itoa(n)})
	}
	var dialog []exchange
	for n := range impl.MaxDesk {
		dialog = append(dialog, exchange{"tick 30", "now " + strconv.Itoa(30*n+30)})
	}
	wantDialog(t, dialog...)
	wantDialog(t, exchange{"submit 0: 1 3 0", "1"}, exchange{"tick 0", "now 0"}, exchange{"see 0:", "0:#1=w"}, exchange{"tick 3", "now 3"},
		exchange{"see 0:", "0:#1=r1"}, exchange{"tick 1", "now 4"}, exchange{"see 0:", "0:#1=d"}, exchange{"tick 30", "now 34"}, exchange{"see 0:", "0:#1=d"})
	wantDialog(t, exchange{"tick 5", "now 5"}, exchange{"submit 1: 2 20 0", "1"}, exchange{"tick 30", "now 35"}, exchange{"see 1:", "1:#1=d"})
}

// TestDeskSees looks at jobs in all four states, and in the order of Ahead, with every label.
func TestDeskSees(t *testing.T) {
	lines := []string{
		"submit 2:a 1 20 3", "submit 1: 1 20 0", "submit 1: 1 20 9", "submit 0: 1 20 0", "submit 0: 1 20 1", "submit 0: 1 20 1",
		"tick 12", "hold 0: 2", "done 1: 1", "tick 1",
	}
	outputs := []string{"1", "1", "2", "1", "2", "3", "now 12", "ok", "ok", "now 13"}
	wantScript(t, script(lines...), impl.DeskOut{Text: script(outputs...)})
	low, middle, high := "0:#2=h 0:#3=r1 0:#1=r1", "1:#2=r13", "2:a#1=w"
	for text, a := range labelTexts() {
		want := low
		if a.Level >= 1 {
			want += " " + middle + " 1:#1=d"
		}
		if a.Level >= 2 && a.Set%2 == 1 {
			want += " " + high
		}
		wantScript(t, script(append(lines, "see "+text)...), impl.DeskOut{Text: script(append(outputs, want)...)})
	}
}

// TestDeskPlans plans no job, one, and several; held and done jobs have no slot, and neither has one for which there is no time within the horizon.
func TestDeskPlans(t *testing.T) {
	lines := []string{
		"plan 3:abc", "submit 2:a 1 20 0", "plan 3:abc", "submit 0: 3 20 0", "submit 0: 2 20 9", "submit 0: 3 20 0", "submit 1: 1 4 0", "submit 1: 2 20 0",
		"submit 1: 1 1 9", "hold 1: 3", "submit 2:a 1 20 0", "submit 2:a 1 1 1", "tick 2",
	}
	outputs := []string{"-", "1", "2:a#1@0", "1", "2", "3", "1", "2", "3", "ok", "2", "3", "now 2"}
	wantScript(t, script(lines...), impl.DeskOut{Text: script(outputs...)})
	for text := range labelTexts() {
		wantScript(t, script(append(lines, "plan "+text)...), impl.DeskOut{Text: script(append(outputs, "0:#2@1 0:#1@21 0:#3@41")...)})
	}
	lines, outputs = append(lines, "done 0: 3", "hold 0: 1"), append(outputs, "ok", "ok")
	for text, a := range labelTexts() {
		want := "0:#2@1"
		if a.Level >= 1 {
			want += " 1:#1@21 1:#2@25"
		}
		if a.Level >= 2 && a.Set%2 == 1 {
			want += " 2:a#3@21"
		}
		wantScript(t, script(append(lines, "plan "+text)...), impl.DeskOut{Text: script(append(outputs, want)...)})
	}
}

// TestDeskLooksChangeNothing lays looks between the lines of a script: the other outputs stay the same.
func TestDeskLooksChangeNothing(t *testing.T) {
	r := rand.New(rand.NewPCG(11, 3))
	for range 200 {
		lines := mixedScript(r, impl.MaxDesk/4)
		var more []string
		for _, line := range lines {
			more = append(more, line, "see 3:abc", "plan 3:abc", "tick 0")
		}
		outputs := strings.SplitAfter(impl.DeskRun(script(more...)).Text, "\n")
		kept := ""
		for i := range lines {
			kept += outputs[4*i]
		}
		wantScript(t, script(lines...), impl.DeskOut{Text: kept})
	}
}
