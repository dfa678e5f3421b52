package tests

import (
	"math/rand/v2"
	"slices"
	"strconv"
	"strings"
	"testing"

	"loop.example/g00658/impl"
)

// faultAt is the result for a text whose first faulty line has an index.
func faultAt(line int) impl.ConfigOut {
	return impl.ConfigOut{Line: int64(line), Code: impl.ErrSyntax}
}

// invalid is the result for a text that is well formed, but has no valid configuration.
func invalid() impl.ConfigOut {
	return impl.ConfigOut{Code: impl.ErrForm}
}

// wantLikePlain compares with the model, whatever the text is.
func wantLikePlain(t *testing.T, text string) {
	t.Helper()
	wantReadConfig(t, text, plainConfigRead(text))
}

// wantConfigLine expects that a line is well formed, or faulty, wherever it stands behind lines of its own kind; its line feed is not in it.
func wantConfigLine(t *testing.T, line string, right bool) {
	t.Helper()
	for _, before := range [][]string{nil, {"node 0:"}, {"node 0: 1:", "node 1:"}} {
		at := len(before)
		text := script(append(before, line)...)
		want := faultAt(at)
		if right {
			want = plainConfigRead(text)
			if want.Code == impl.ErrSyntax {
				t.Errorf("%q should be well formed", text)
			}
		}
		wantReadConfig(t, text, want)
		if line != "" {
			wantReadConfig(t, strings.TrimSuffix(text, "\n"), faultAt(at))
		}
		wantReadConfig(t, text+"x", faultAt(at+btoi(right)))
	}
}

func btoi(b bool) int {
	if b {
		return 1
	}
	return 0
}

// formedLines has well-formed lines of each kind.
func formedLines() []string {
	return []string{
		"node 0:", "node 3:abc", "node 0: 1: 2: 3:", "node 0: 0:", "node 1: 0:", "node 1:a 1:b 1:c", "node 3:abc 3:abc 3:abc 3:abc",
		"pair 1: 0: 1", "pair 0: 1: 2", "pair 0: 0: 3", "pair 3:abc 2:ac 9", "pair 1:a 1:b 0", "quota 0: 3", "quota 3:abc 0", "quota 2:b 9",
		"half 0", "half 1", "half 4", "half 9",
	}
}

// faultyLines has lines that are wrong in one way each, without their line feed.
func faultyLines() []string {
	return []string{
		// No words, or words that are not separated by single spaces.
		"", " ", "  ", " node 0:", "node 0: ", "node  0:", "node 0:  1:", "\tnode 0:", "node\t0:", "node 0:\t", "node 0:\r", "node 0:\x00", "node\v0:", "node\u00a00:",
		" pair 1: 0: 1", "pair 1: 0: 1 ", "pair  1: 0: 1", "pair 1:  0: 1", "pair 1: 0:  1", " quota 0: 3", "quota 0: 3 ", "quota  0: 3", "quota 0:  3",
		" half 4", "half 4 ", "half  4", "half 4  ", "half\t4", "half 4\r",
		// Too few words, or too many.
		"node", "node ", "node 0: 1: 2: 3: 3:a", "node 0: 0: 0: 0: 0:", "node 0: 0:a 0:ab 0:abc 1:abc 2:abc 3:abc",
		"pair", "pair 1:", "pair 1: 0:", "pair 1: 1", "pair 1", "pair 1: 0: 1 1", "pair 2: 1: 0: 1", "pair 1: 0: 1 0:",
		"quota", "quota 0:", "quota 3", "quota 0: 3 3", "quota 0: 1: 3", "half", "half ", "half 4 4", "half 0: 4", "half 4 0:",
		// Words in another order, or of another sort.
		"node 1", "node 0: 4", "node 4 0:", "node 0: 1", "pair 1 1: 0:", "pair 1: 1 0:", "pair 1: 0: 0:", "quota 3 0:", "quota 0: 0:", "quota 3 3", "half 0:",
		"0: node", "4 half", "0: 1:", "4", "0:",
		// Words with which no line begins.
		"x", "nod 0:", "nodes 0:", "node: 0:", "no 0:", "pairs 1: 0: 1", "pai 1: 0: 1", "quot 0: 3", "quotas 0: 3", "hal 4", "halfs 4", "halve 4", "rate 4", "#", "-",
		"node0:", "half4", "label 0:", "end", "half\x00 4", "n\u043ede 0:", "\xff",
		// Capital letters.
		"Node 0:", "NODE 0:", "nodE 0:", "Pair 1: 0: 1", "PAIR 1: 0: 1", "Quota 0: 3", "quOta 0: 3", "Half 4", "HALF 4", "node 1:A", "quota 1:AB 3",
	}
}

// notDigits has texts that are no single digit.
func notDigits() []string {
	return []string{
		"10", "11", "12", "19", "20", "44", "99", "100", "00", "01", "04", "09", "004", "-1", "-4", "-0", "+1", "+4", "+0", "--4", "4-", "1000000000",
		"9223372036854775807", "9223372036854775808", "18446744073709551620", strings.Repeat("4", 40), "", "x", "a", "4a", "a4", "0x4", "4_", "4.", "4.0", ".4", "1e0", "4:", "0:",
		":", "/", ";", "four", "\uff14", "\u0664", "\u2074", "4\x00", "\x004", "\xff", "NaN", "inf", "'4'",
	}
}

func TestConfigLines(t *testing.T) {
	for _, line := range formedLines() {
		wantConfigLine(t, line, true)
	}
	for _, line := range faultyLines() {
		wantConfigLine(t, line, false)
	}
}

// TestConfigReadOfOneKind has each kind of lines alone.
func TestConfigReadOfOneKind(t *testing.T) {
	for _, line := range []string{"node 0:", "pair 1: 0: 2", "quota 0: 3", "half 4"} {
		wantReadConfig(t, script(line), invalid())
	}
	for _, line := range []string{"node 0:", "pair 1: 0: 2", "quota 0: 3"} {
		wantReadConfig(t, script(line, line), invalid())
		wantReadConfig(t, script("node 0: 1:", line), invalid())
	}
	wantReadConfig(t, script("half 4", "half 4"), faultAt(1))
	wantReadConfig(t, script("node 0: 1:", "half 4"), impl.ConfigOut{Config: impl.Config{Nodes: [][]impl.Label{{label(0, 0), label(1, 0)}}, Half: 4}})
}

// TestConfigReadNumbers puts all digits, and what is none, to each place of a number.
func TestConfigReadNumbers(t *testing.T) {
	right := []string{"node 0: 1:", "pair 1: 0: 2", "quota 0: 3", "half 4"}
	for at, most := range map[int]int{1: 3, 2: 9, 3: 9} {
		start := right[at][:len(right[at])-1]
		for n := range 10 {
			lines := slices.Clone(right)
			lines[at] = start + strconv.Itoa(n)
			wantLikePlain(t, script(lines...))
			if code := impl.ConfigRead(script(lines...)).Code; (code == impl.OK) != (n >= 1 && n <= most) {
				t.Errorf("%q gives code %d", lines[at], code)
			}
		}
		for _, num := range notDigits() {
			lines := slices.Clone(right)
			lines[at] = start + num
			wantReadConfig(t, script(lines...), faultAt(at))
			wantConfigLine(t, start+num, false)
		}
	}
}

// TestConfigReadLabels puts all labels, and what is none, to each place of a label.
func TestConfigReadLabels(t *testing.T) {
	for _, place := range [][2]string{
		{"node ", ""}, {"node ", " 3:abc"}, {"node 0: ", ""}, {"node 0: ", " 2:"}, {"node 0: 0:a 0:ab ", ""}, {"pair ", " 0: 2"}, {"pair 1: ", " 2"}, {"quota ", " 3"},
	} {
		for text := range labelTexts() {
			wantConfigLine(t, place[0]+text+place[1], true)
		}
		for _, text := range append(wrongTexts(), "") {
			wantConfigLine(t, place[0]+text+place[1], false)
		}
	}
}

func TestConfigReadCountsTheLabelsOfANode(t *testing.T) {
	for n := range 12 {
		line := "node" + strings.Repeat(" 0:", n)
		wantConfigLine(t, line, n >= 1 && n <= 4)
		labels := []string{"0:", "0:a", "1:a", "1:ab", "2:ab", "2:abc", "3:abc"}
		line = "node " + strings.Join(labels[:min(n, 7)], " ")
		wantConfigLine(t, line, n >= 1 && n <= 4)
	}
}

// TestConfigReadOrderOfKinds has all lists of up to five lines of the four kinds.
func TestConfigReadOrderOfKinds(t *testing.T) {
	lines := []string{"node 0: 1:", "pair 1: 0: 2", "quota 0: 3", "half 4"}
	for size := range 6 {
		for n := range 1 << (2 * size) {
			var kinds []int
			var text string
			for range size {
				kinds = append(kinds, n%4)
				text += lines[n%4] + "\n"
				n /= 4
			}
			wantLikePlain(t, text)
			want := int64(0)
			for i := range size {
				if i > 0 && want == 0 && (kinds[i] < kinds[i-1] || kinds[i-1] == 3) {
					want = int64(i)
				}
			}
			if got := impl.ConfigRead(text); got.Line != want || (got.Code == impl.ErrSyntax) != (want > 0) {
				t.Errorf("ConfigRead(%q): %+v, want line %d", text, got, want)
			}
		}
	}
}

// TestConfigReadBehindHalf has something behind the line that is the last one.
func TestConfigReadBehindHalf(t *testing.T) {
	for _, rest := range append(formedLines(), faultyLines()...) {
		wantReadConfig(t, "node 0: 1:\nhalf 4\n"+rest+"\n", faultAt(2))
		wantReadConfig(t, "half 4\n"+rest+"\nnode 0:\n", faultAt(1))
		if rest != "" {
			wantReadConfig(t, "node 0: 1:\nhalf 4\n"+rest, faultAt(2))
		}
	}
	wantReadConfig(t, "half 4\nhalf 4\nhalf 4\n", faultAt(1))
	wantReadConfig(t, "node 0:\nhalf 4\nhalf 5\n", faultAt(2))
	wantReadConfig(t, "node 0:\nhalf 4\n\n", faultAt(2))
}

// TestConfigReadLineFeeds leaves out the last line feed, or has another byte in its place.
func TestConfigReadLineFeeds(t *testing.T) {
	for _, c := range []impl.Config{plainConfig(), fullConfig(), wide(1)} {
		lines := strings.SplitAfter(roughText(c), "\n")
		for n := range len(lines) - 1 {
			whole := strings.Join(lines[:n+1], "")
			wantReadConfig(t, strings.TrimSuffix(whole, "\n"), faultAt(n))
			for _, ended := range []string{"\r", "\r\n", "\v", "\f", "\x00", "\u0085", "\u2028", ";", "\n\n", "\n\r", " \n", " "} {
				wantLikePlain(t, strings.TrimSuffix(whole, "\n")+ended)
				wantLikePlain(t, strings.TrimSuffix(whole, "\n")+ended+strings.Join(lines[n+1:], ""))
			}
		}
	}
}

func TestConfigReadOfEmptyLines(t *testing.T) {
	wantReadConfig(t, "", invalid())
	wantReadConfig(t, "\n", faultAt(0))
	wantReadConfig(t, "\n\n", faultAt(0))
	lines := strings.SplitAfter(roughText(plainConfig()), "\n")
	for n := range lines {
		wantReadConfig(t, strings.Join(lines[:n], "")+"\n"+strings.Join(lines[n:], ""), faultAt(n))
	}
}

// TestConfigReadTellsTheFirstFault has two faulty lines: their kinds do not matter, only their order does.
func TestConfigReadTellsTheFirstFault(t *testing.T) {
	faulty := append(faultyLines(), "pair 1: 0: 10", "quota 0: -1", "half x", "node 1:ba", "node 4:")
	for i, first := range faulty {
		second := faulty[(7*i+3)%len(faulty)]
		for n := range 4 {
			before := strings.Repeat("node 0:\n", n)
			wantReadConfig(t, before+script(first, second), faultAt(n))
			wantReadConfig(t, before+script(first, "quota 0: 3", "node 0:", second), faultAt(n))
			wantReadConfig(t, before+script(first, "half 4")+"half", faultAt(n))
			wantReadConfig(t, before+script("quota 0: 3", "pair 1: 0: 2", first), faultAt(n+1))
			wantReadConfig(t, before+script("half 4", "half 4", first), faultAt(n+1))
		}
	}
	// What is invalid, but well formed, counts only if all lines are well formed.
	wantReadConfig(t, "node 0: 0:\npair 0: 1: 0\nquota 0: 0\nhalf 0\n", invalid())
	wantReadConfig(t, "node 0: 0:\npair 0: 1: 0\nquota 0: 0\nhalf 00\n", faultAt(3))
	wantReadConfig(t, strings.Repeat("node 0:\n", 7)+"half 4", faultAt(7))
}

// TestConfigReadRefusesInvalidConfigs has texts that are well formed, whose configurations are not valid.
func TestConfigReadRefusesInvalidConfigs(t *testing.T) {
	const nodes = "node 0: 1: 2:a\nnode 0: 1:a\n"
	for _, text := range []string{
		"", "half 4\n", "node 0:\n", nodes, nodes + "pair 1: 0: 2\n", nodes + "quota 0: 3\n", "pair 1: 0: 2\nquota 0: 3\nhalf 4\n", "quota 0: 3\nhalf 4\n", nodes + "half 0\n",
		strings.Repeat("node 0:\n", 7) + "half 4\n", "node 0: 0:\nhalf 4\n", "node 1: 0:\nhalf 4\n", "node 0: 1:a 1:b\nhalf 4\n", "node 0:\nnode 0: 1: 0:\nhalf 4\n",
		"node 0: 1: 2: 3:\nnode 0:a 1:a 2:a 3:a\nnode 0:b\nhalf 4\n",
		nodes + "pair 0: 1: 2\nhalf 4\n", nodes + "pair 1: 1: 2\nhalf 4\n", nodes + "pair 2: 0: 2\nhalf 4\n", nodes + "pair 1: 0:a 2\nhalf 4\n", nodes + "pair 1: 0: 0\nhalf 4\n",
		nodes + "pair 1: 0: 4\nhalf 4\n", nodes + "pair 1: 0: 9\nhalf 4\n", nodes + "pair 1: 0: 2\npair 1: 0: 2\nhalf 4\n", nodes + "pair 1: 0: 2\npair 1: 0: 3\nhalf 4\n",
		nodes + "pair 1: 0: 1\npair 1:a 0: 1\npair 2:a 0: 1\npair 2:a 1: 1\npair 2:a 1:a 1\nhalf 4\n",
		nodes + "quota 0: 0\nhalf 4\n", nodes + "quota 3: 3\nhalf 4\n", nodes + "quota 0:b 3\nhalf 4\n", nodes + "quota 0: 3\nquota 0: 3\nhalf 4\n", nodes + "quota 0: 3\nquota 0: 4\nhalf 4\n",
		nodes + "quota 1: 3\nquota 0: 3\nhalf 4\n", nodes + "quota 1:a 3\nquota 1: 3\nhalf 4\n",
	} {
		if want := plainConfigRead(text); want.Code != impl.ErrForm || want.Line != 0 {
			t.Fatalf("not invalid: %q", text)
		}
		wantReadConfig(t, text, invalid())
	}
}

// TestConfigReadSizeLimit has texts on both sides of MaxBytes, which no valid configuration comes near.
func TestConfigReadSizeLimit(t *testing.T) {
	tooLong := impl.ConfigOut{Code: impl.ErrSize}
	many := strings.Repeat("node 0:\n", impl.MaxBytes/8)
	wantReadConfig(t, many, invalid())
	wantReadConfig(t, many+"\n", tooLong)
	wantReadConfig(t, many+many, tooLong)
	wantReadConfig(t, many[:impl.MaxBytes-1], faultAt(999))
	wantReadConfig(t, many[:impl.MaxBytes-1]+" ", faultAt(999))
	wantReadConfig(t, many[8:]+"half 4\n", invalid())
	wantReadConfig(t, many[8:]+"half 4\n\n", faultAt(1000))
	wantReadConfig(t, many[8:]+"half 4\n\n\n", tooLong)
	for _, line := range []string{"pair 1: 0: 2\n", "quota 0: 3\n", "node 0: 1: 2: 3:\n"} {
		n := impl.MaxBytes / len(line)
		wantReadConfig(t, strings.Repeat(line, n), invalid())
		wantReadConfig(t, strings.Repeat(line, n+1), tooLong)
	}
	for _, start := range []string{"", "node 0:\nhalf 4\n", "node ", "node 0: 1:", "half 4", roughText(plainConfig())} {
		for _, fill := range []string{" ", "\n", "x", "0", "4", "\x00", " 0:"} {
			text := start + strings.Repeat(fill, impl.MaxBytes+1)
			wantLikePlain(t, text[:impl.MaxBytes])
			if code := impl.ConfigRead(text[:impl.MaxBytes]).Code; code != impl.ErrSyntax {
				t.Errorf("%q and so on gives code %d", short(text), code)
			}
			wantReadConfig(t, text[:impl.MaxBytes+1], tooLong)
		}
	}
}

// TestConfigReadOfEveryCut ends a text after each of its bytes.
func TestConfigReadOfEveryCut(t *testing.T) {
	r := rand.New(rand.NewPCG(13, 5))
	for range 40 {
		text := roughText(mixedConfig(r))
		for cut := range len(text) {
			want := faultAt(strings.Count(text[:cut], "\n"))
			if strings.HasSuffix("\n"+text[:cut], "\n") {
				want = invalid()
			}
			wantReadConfig(t, text[:cut], want)
		}
	}
}

// TestConfigReadOfChangedTexts changes, leaves out or puts in one byte at every place.
func TestConfigReadOfChangedTexts(t *testing.T) {
	r := rand.New(rand.NewPCG(13, 6))
	texts := []string{roughText(plainConfig()), roughText(fullConfig())}
	for range 4 {
		texts = append(texts, roughText(mixedConfig(r)))
	}
	for _, text := range texts {
		for i := range len(text) + 1 {
			for _, b := range []byte(" \n\r0123459:abcdehnopqu-+#\x00\xff") {
				wantLikePlain(t, string(slices.Insert([]byte(text), i, b)))
				if i < len(text) {
					wantLikePlain(t, text[:i]+string([]byte{b})+text[i+1:])
				}
			}
			if i < len(text) {
				wantLikePlain(t, text[:i]+text[i+1:])
			}
		}
	}
}

// TestConfigReadOfMixedLines changes the order of the lines, leaves some out, doubles some, and puts in others.
func TestConfigReadOfMixedLines(t *testing.T) {
	r := rand.New(rand.NewPCG(13, 7))
	others := append(formedLines(), faultyLines()...)
	count := map[int64]int{}
	for range 4000 {
		lines := strings.Split(strings.TrimSuffix(roughText(mixedConfig(r)), "\n"), "\n")
		for range r.IntN(3) {
			i, j := r.IntN(len(lines)), r.IntN(len(lines))
			switch r.IntN(4) {
			case 0:
				lines[i], lines[j] = lines[j], lines[i]
			case 1:
				lines = slices.Insert(lines, i, lines[j])
			case 2:
				lines = slices.Insert(lines, i, others[r.IntN(len(others))])
			case 3:
				lines[i] = lines[j]
			}
		}
		want := plainConfigRead(script(lines...))
		count[want.Code]++
		wantReadConfig(t, script(lines...), want)
	}
	if count[impl.OK] < 200 || count[impl.ErrForm] < 200 || count[impl.ErrSyntax] < 200 {
		t.Errorf("the codes are too much alike: %v", count)
	}
}
