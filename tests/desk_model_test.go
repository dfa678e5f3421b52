package tests

import (
	"math/rand/v2"
	"regexp"
	"strconv"
	"strings"
	"testing"

	"loop.example/g00658/impl"
)

// This file has what the document says of the job console, written down step by step, and the scripts that it is tried on.

// deskForm has a whole line of every form.
var deskForm = regexp.MustCompile(strings.NewReplacer("LABEL", "[0-3]:a?b?c?", "N", "(0|[1-9][0-9]{0,8})").Replace(
	`\A(submit LABEL N N N|(done|hold|wait) LABEL N|tick ([0-9]|[12][0-9]|30)|(see|plan) LABEL)\n\z`))

func plainDeskFault(text string) impl.DeskOut {
	if len(text) > 8000 {
		return impl.DeskOut{Code: impl.ErrSize}
	}
	for i, line := range strings.SplitAfter(text, "\n") {
		// Behind the last line feed there is nothing, which is not a line.
		if line != "" && (i >= 40 || !deskForm.MatchString(line)) {
			return impl.DeskOut{Line: int64(i), Code: impl.ErrSyntax}
		}
	}
	return impl.DeskOut{}
}

func plainDeskRun(text string) impl.DeskOut {
	out := plainDeskFault(text)
	if out.Code != impl.OK {
		return out
	}
	p := deskPool()
	for line := range strings.Lines(text) {
		output := ""
		p, output = plainDeskLine(p, strings.Fields(line))
		out.Text += output + "\n"
	}
	return out
}

// deskPool is the pool on which every script begins.
func deskPool() impl.Pool {
	return poolOf(0, [][]impl.Label{{label(0, 0), label(1, 0)}, {label(0, 0), label(1, 0), label(2, 1)}, {label(0, 0)}})
}

func plainDeskLine(p impl.Pool, words []string) (impl.Pool, string) {
	a := labelTexts()[words[1]]
	n := make([]int64, len(words))
	for i, word := range words {
		n[i], _ = strconv.ParseInt(word, 10, 64)
	}
	switch words[0] {
	case "submit":
		out := plainSubmit(p, a, n[2], n[3], n[4])
		return plainDeskOut(p, out, strconv.FormatInt(out.Id, 10))
	case "done":
		return plainDeskOut(p, plainChange(p, a, n[2], 3), "ok")
	case "hold":
		return plainDeskOut(p, plainChange(p, a, n[2], 4), "ok")
	case "wait":
		return plainDeskOut(p, plainChange(p, a, n[2], 1), "ok")
	case "tick":
		for range n[1] {
			p = plainAdvance(p).Pool
		}
		return p, "now " + strconv.FormatInt(p.Now, 10)
	case "see":
		return p, plainDeskSee(p, a)
	}
	return p, plainDeskPlan(p, a)
}

func plainDeskOut(p impl.Pool, out impl.PoolOut, output string) (impl.Pool, string) {
	if out.Code != impl.OK {
		return p, "error " + strconv.FormatInt(out.Code, 10)
	}
	return out.Pool, output
}

// textFor finds the text of a label among all texts.
func textFor(a impl.Label) string {
	for text, b := range labelTexts() {
		if a == b {
			return text
		}
	}
	return ""
}

func plainDeskSee(p impl.Pool, a impl.Label) string {
	text := ""
	for _, j := range plainTurns(p.Jobs) {
		if !plainBelow(j.Label, a) {
			continue
		}
		text += " " + textFor(j.Label) + "#" + strconv.FormatInt(j.Id, 10) + "=" + " wrdh"[j.State:j.State+1]
		if j.State == 2 {
			text += strconv.FormatInt(j.Start, 10)
		}
	}
	return plainDeskList(text)
}

func plainDeskPlan(p impl.Pool, a impl.Label) string {
	text := ""
	for _, s := range plainPlanOf(p) {
		if plainBelow(s.Label, a) {
			text += " " + textFor(s.Label) + "#" + strconv.FormatInt(s.Id, 10) + "@" + strconv.FormatInt(s.Start, 10)
		}
	}
	return plainDeskList(text)
}

func plainDeskList(text string) string {
	if text == "" {
		return "-"
	}
	return text[1:]
}

// script ends each line with a line feed.
func script(lines ...string) string {
	text := ""
	for _, line := range lines {
		text += line + "\n"
	}
	return text
}

// wantScript runs a script; DeskFault has to answer the same without the outputs.
func wantScript(t *testing.T, text string, want impl.DeskOut) {
	t.Helper()
	if got := impl.DeskRun(text); got != want {
		t.Errorf("DeskRun(%q): got %+v, want %+v", text, got, want)
	}
	want.Text = ""
	if got := impl.DeskFault(text); got != want {
		t.Errorf("DeskFault(%q): got %+v, want %+v", text, got, want)
	}
}

// exchange is a line of a script and what it outputs.
type exchange struct{ line, output string }

// wantDialog runs a script from its first line on: no output may depend on the lines behind it.
func wantDialog(t *testing.T, dialog ...exchange) {
	t.Helper()
	text, output := "", ""
	for _, e := range dialog {
		text += e.line + "\n"
		output += e.output + "\n"
		wantScript(t, text, impl.DeskOut{Text: output})
	}
}

// mixedLine makes a well-formed line, whose operation is usually possible.
func mixedLine(r *rand.Rand) string {
	labels := []string{"0:", "0:", "1:", "1:", "2:a", "2:a", "1:a", "3:abc"}
	a := labels[r.IntN(len(labels))]
	num := func(n int) string { return strconv.Itoa(r.IntN(n)) }
	switch r.IntN(9) {
	case 0, 1, 2:
		return "submit " + a + " " + num(4) + " " + num(22) + " " + num(11)
	case 3:
		return "done " + a + " " + num(5)
	case 4:
		return "hold " + a + " " + num(5)
	case 5:
		return "wait " + a + " " + num(5)
	case 6:
		return "tick " + num(5)
	case 7:
		return "see " + a
	}
	return "plan " + a
}

// mixedScript makes up to n well-formed lines.
func mixedScript(r *rand.Rand, n int) []string {
	var lines []string
	for range r.IntN(n + 1) {
		lines = append(lines, mixedLine(r))
	}
	return lines
}
