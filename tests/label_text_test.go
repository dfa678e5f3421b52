package tests

import (
	"strings"
	"testing"

	"loop.example/g00658/impl"
)

// labelTexts lists the text of every valid label, written out rather than computed.
func labelTexts() map[string]impl.Label {
	texts := map[string]impl.Label{}
	sets := []string{"", "a", "b", "ab", "c", "ac", "bc", "abc"}
	for level, digit := range []string{"0", "1", "2", "3"} {
		for set, letters := range sets {
			texts[digit+":"+letters] = label(int64(level), int64(set))
		}
	}
	return texts
}

func wantLabel(t *testing.T, text string, want impl.LabelOut) {
	t.Helper()
	if got := impl.LabelRead(text); got != want {
		t.Errorf("LabelRead(%q) = %+v, want %+v", short(text), got, want)
	}
}

// wantRead expects the label of a text, or ErrSyntax if it is the text of none.
func wantRead(t *testing.T, text string) {
	t.Helper()
	want := impl.LabelOut{Code: impl.ErrSyntax}
	if a, ok := labelTexts()[text]; ok {
		want = impl.LabelOut{Label: a}
	}
	wantLabel(t, text, want)
}

func TestLabelText(t *testing.T) {
	texts := labelTexts()
	if len(texts) != 32 {
		t.Fatalf("%d texts", len(texts))
	}
	for text, a := range texts {
		if got := impl.LabelText(a); got != text {
			t.Errorf("LabelText(%+v) = %q, want %q", a, got, text)
		}
	}
	for _, a := range wrongLabels() {
		if got := impl.LabelText(a); got != "" {
			t.Errorf("LabelText(%+v) = %q", a, got)
		}
	}
}

func TestLabelIsRecovered(t *testing.T) {
	for _, a := range allLabels() {
		wantLabel(t, impl.LabelText(a), impl.LabelOut{Label: a})
	}
	wantLabel(t, "1:ab", impl.LabelOut{Label: label(1, 3)})
	wantLabel(t, "2:a", impl.LabelOut{Label: label(2, 1)})
	wantLabel(t, "3:abc", impl.LabelOut{Label: label(3, 7)})
	wantLabel(t, "0:", impl.LabelOut{})
}

func TestLabelReadRefuses(t *testing.T) {
	for _, text := range []string{
		"", "1", ":", "a", ":a", "1a", "1ab", "ab",
		"1:ba", "1:ca", "1:cb", "1:acb", "1:bac", "1:bca", "1:cab", "1:cba",
		"1:aa", "1:bb", "1:cc", "1:aab", "1:abb", "1:aba", "1:abca", "1:abcc", "1:abcabc",
		"1:d", "1:abcd", "1:abd", "1:A", "1:aB", "1:`", "1:1", "1:a1",
		"4:", "4:a", "9:a", "/:a", "-1:a", "+1:a", "01:a", "10:a", "1.0:a", "0x1:a", "00:",
		"1::", "1::a", "1:a:", "1:a:b", "1;a", "1 a", "1-a",
		" 1:a", "1 :a", "1: a", "1:a ", "1:a b", "1:a,b", "1:a\n", "\n1:a", "1:\x00", "1:a\x00", "\x001:a",
	} {
		wantLabel(t, text, impl.LabelOut{Code: impl.ErrSyntax})
	}
}

// TestLabelReadRunes reads characters that look like the right ones, or become them when cut to a byte.
func TestLabelReadRunes(t *testing.T) {
	for _, text := range []string{
		"\uff11:a", "1\uff1aa", "1:\uff41", "\u0661:a", "1:\u0430", "1:a\u0301", "1:á",
		"\u0131:a", "1\u013aa", "1:\u0161", "1:a\u0162", "\U00010031:a", "1:\U00010061",
		"\ufffd:a", "1\ufffda", "1:\ufffd", "\ufeff1:a", "1:a\u200b", "\U0010ffff",
		"\xff:a", "1\xffa", "1:\xff", "1:a\xff", "\xb1:a", "1\xbaa", "1:\xe1", "1:\xc3", "\x80", "\xe2\x82",
	} {
		wantLabel(t, text, impl.LabelOut{Code: impl.ErrSyntax})
	}
}

func TestLabelReadOfAllShortTexts(t *testing.T) {
	const bytes = "01234:abcd"
	texts := []string{""}
	for range 5 {
		var longer []string
		for _, text := range texts {
			wantRead(t, text)
			for i := range len(bytes) {
				longer = append(longer, text+bytes[i:i+1])
			}
		}
		texts = longer
	}
	for i := 0; i < len(texts); i += 7 {
		wantRead(t, texts[i])
	}
}

func TestLabelReadOfChangedTexts(t *testing.T) {
	for text := range labelTexts() {
		for i := range len(text) + 1 {
			wantRead(t, text[:i])
			wantRead(t, text[i:])
			for b := range 256 {
				one := string([]byte{byte(b)})
				wantRead(t, text[:i]+one+text[i:])
				if i < len(text) {
					wantRead(t, text[:i]+one+text[i+1:])
				}
			}
		}
	}
}

func TestLabelReadSizeLimit(t *testing.T) {
	for _, start := range []string{"1:ab", "0:", "x", "", "1:abc"} {
		for _, fill := range []string{"a", "c", "\x00", "\xff", ":", "0"} {
			most := start + strings.Repeat(fill, impl.MaxBytes-len(start))
			wantLabel(t, most, impl.LabelOut{Code: impl.ErrSyntax})
			wantLabel(t, most+fill, impl.LabelOut{Code: impl.ErrSize})
			wantLabel(t, most+most, impl.LabelOut{Code: impl.ErrSize})
		}
	}
}
