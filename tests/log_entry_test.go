package tests

import (
	"math"
	"strings"
	"testing"

	"loop.example/g00658/impl"
)

// wantEntry compares all that the log does with an entry alone.
func wantEntry(t *testing.T, right bool, e impl.Entry) {
	t.Helper()
	if got := impl.EntryRight(e); got != right || got != plainEntryRight(e) {
		t.Errorf("EntryRight(%+v) = %v, want %v", e, got, right)
	}
	want := ""
	if right {
		want = roughBytes(e)
	}
	text := impl.EntryBytes(e)
	if text != want {
		t.Errorf("EntryBytes(%+v) = %q, want %q", e, text, want)
	}
	if right {
		wantEntryRead(t, text, impl.EntryOut{Entry: e})
	} else {
		wantEntryRead(t, text, impl.EntryOut{Code: impl.ErrShort})
		wantEntryRead(t, roughBytes(e), impl.EntryOut{Code: impl.ErrSyntax})
	}
}

func wantEntryRead(t *testing.T, text string, want impl.EntryOut) {
	t.Helper()
	got := impl.EntryRead(text)
	if got != want {
		t.Errorf("EntryRead(%q) = %+v, want %+v", short(text), got, want)
	}
	if got.Code == impl.OK && impl.EntryBytes(got.Entry) != text {
		t.Errorf("EntryRead(%q) returns an entry with other bytes: %+v", short(text), got)
	}
}

// bodyOf is what the seal of an entry is for.
func bodyOf(e impl.Entry) string {
	text := roughBytes(e)
	return text[:len(text)-4]
}

func TestEntryRight(t *testing.T) {
	for _, e := range rightEntries() {
		wantEntry(t, true, e)
	}
	for _, e := range wrongEntries() {
		wantEntry(t, false, e)
	}
}

// TestEntryRightLimits tries each of A, B and C with each kind.
func TestEntryRightLimits(t *testing.T) {
	a := label(2, 5)
	for n, inside := range map[int64]bool{math.MinInt64: false, -1: false, 0: true, 1: true, 100: true, 101: false, math.MaxInt64: false} {
		wantEntry(t, inside, submitOf(a, n, 7, 8))
		wantEntry(t, inside, submitOf(a, 7, n, 8))
		wantEntry(t, inside, submitOf(a, 7, 8, n))
		wantEntry(t, inside, changeOf(a, n, 7))
		wantEntry(t, inside, changeOf(a, 7, n))
		wantEntry(t, n == 0, impl.Entry{Kind: impl.EnChange, Label: a, A: 7, B: 8, C: n})
		wantEntry(t, n == 0, impl.Entry{Kind: impl.EnAdvance, A: n})
		wantEntry(t, n == 0, impl.Entry{Kind: impl.EnAdvance, B: n})
		wantEntry(t, n == 0, impl.Entry{Kind: impl.EnAdvance, C: n})
		wantEntry(t, n == 0, impl.Entry{Kind: impl.EnAdvance, Label: label(n, 0)})
		wantEntry(t, n == 0, impl.Entry{Kind: impl.EnAdvance, Label: label(0, n)})
	}
	for kind := int64(-2); kind <= 6; kind++ {
		wantEntry(t, kind >= 1 && kind <= 3, impl.Entry{Kind: kind})
		wantEntry(t, kind == 1 || kind == 2, impl.Entry{Kind: kind, A: 1})
		wantEntry(t, kind == 1, impl.Entry{Kind: kind, C: 1})
		wantEntry(t, kind == 1 || kind == 2, impl.Entry{Kind: kind, Label: a})
	}
}

func TestEntriesOfAllParts(t *testing.T) {
	labels := []impl.Label{label(0, 0), label(1, 0), label(0, 1), label(3, 7), label(4, 0), label(0, 8), label(-1, 0), label(0, -1)}
	for kind := int64(-1); kind <= 5; kind++ {
		for _, a := range labels {
			for _, x := range someNums() {
				for _, y := range someNums() {
					for _, z := range []int64{-1, 0, 1, 100, 101} {
						e := impl.Entry{Kind: kind, Label: a, A: x, B: y, C: z}
						wantEntry(t, plainEntryRight(e), e)
					}
				}
			}
		}
	}
}

func TestEntryBytesOfEachKind(t *testing.T) {
	for _, c := range []struct {
		e    impl.Entry
		body string
	}{
		{submitOf(label(1, 3), 2, 20, 9), "\x02\x02\x06\x04\x28\x12"},
		{submitOf(label(3, 7), 63, 64, 100), "\x02\x06\x0e\x7e\x80\x01\xc8\x01"},
		{changeOf(label(2, 0), 3, 4), "\x04\x04\x00\x06\x08\x00"},
		{advance(), "\x06\x00\x00\x00\x00\x00"},
	} {
		text := impl.EntryBytes(c.e)
		if text != plainSeal(c.body) || text != impl.Seal(c.body) {
			t.Errorf("EntryBytes(%+v) = %q, want the seal of %q", c.e, text, c.body)
		}
		wantEntryRead(t, plainSeal(c.body), impl.EntryOut{Entry: c.e})
	}
}

func TestEntryReadOfTooShortTexts(t *testing.T) {
	for _, text := range []string{"", "x", "\x00", "xy", "\x00\x00\x00"} {
		wantEntryRead(t, text, impl.EntryOut{Code: impl.ErrShort})
	}
	for _, e := range []impl.Entry{submitOf(label(1, 3), 2, 20, 9), changeOf(label(2, 0), 100, 4), advance()} {
		text := impl.EntryBytes(e)
		for cut := range len(text) {
			code := int64(impl.ErrSum)
			if cut < 4 {
				code = impl.ErrShort
			}
			wantEntryRead(t, text[:cut], impl.EntryOut{Code: code})
		}
		for _, more := range []string{"\x00", "x", text, "\x00\x00\x00\x00"} {
			wantEntryRead(t, text+more, impl.EntryOut{Code: impl.ErrSum})
		}
	}
}

func TestEntryReadOfBrokenSeals(t *testing.T) {
	for _, e := range []impl.Entry{submitOf(label(1, 3), 64, 20, 100), changeOf(label(2, 0), 3, 4), advance()} {
		text := impl.EntryBytes(e)
		for i := range len(text) {
			for change := 1; change < 256; change++ {
				wantEntryRead(t, changed(text, i, byte(change)), impl.EntryOut{Code: impl.ErrSum})
			}
		}
	}
	for _, text := range []string{"\x01\x00\x00\x00", "abcd", strings.Repeat("\xff", 9)} {
		wantEntryRead(t, text, impl.EntryOut{Code: impl.ErrSum})
	}
}

// TestEntryReadOfOtherTexts reads texts with a right seal that are not the bytes of an entry.
func TestEntryReadOfOtherTexts(t *testing.T) {
	bodies := []string{"", "x", "submit", strings.Repeat("\xff", 6), strings.Repeat("\x80", 60), strings.Repeat("\x02", 600)}
	for _, e := range []impl.Entry{submitOf(label(1, 3), 64, 20, 100), changeOf(label(2, 0), 3, 4), advance()} {
		body := bodyOf(e)
		for cut := range len(body) {
			bodies = append(bodies, body[:cut])
		}
		for _, more := range []string{"\x00", "\x02", "\x80", "x", body, roughBytes(e)} {
			bodies = append(bodies, body+more, more+body)
		}
		bodies = append(bodies, plainSeal(body), lined(body), body[:len(body)-1]+"\x80\x00", "\x82\x00"+body[1:])
	}
	for _, n := range edgeNums() {
		if n != 0 {
			bodies = append(bodies, numText(3, 0, 0, 0, 0, n), numText(3, 0, 0, n, 0, 0), numText(3, n, 0, 0, 0, 0))
		}
		if n < 1 || n > 3 {
			bodies = append(bodies, numText(n, 0, 0, 0, 0, 0))
		}
	}
	for _, body := range bodies {
		wantEntryRead(t, plainSeal(body), impl.EntryOut{Code: impl.ErrSyntax})
	}
}

func TestEntryReadOfWrongEntries(t *testing.T) {
	for _, e := range wrongEntries() {
		wantEntryRead(t, roughBytes(e), impl.EntryOut{Code: impl.ErrSyntax})
	}
}

// TestEntryReadOfChangedTexts seals bodies again after a change: what is read is what they say now.
func TestEntryReadOfChangedTexts(t *testing.T) {
	read := 0
	for _, e := range []impl.Entry{submitOf(label(1, 3), 2, 20, 9), submitOf(label(0, 0), 64, 100, 1), changeOf(label(2, 0), 3, 4), advance()} {
		body := bodyOf(e)
		for i := range len(body) {
			for change := range 256 {
				text := plainSeal(changed(body, i, byte(change)))
				want := plainEntryRead(text)
				wantEntryRead(t, text, want)
				if want.Code == impl.OK {
					read++
				}
			}
		}
	}
	if read < 200 {
		t.Errorf("only %d changed texts are entries", read)
	}
}

func TestEntryReadSizeLimit(t *testing.T) {
	for _, fill := range []string{"\x00", "\x02", "x", "\xff"} {
		most := plainSeal(strings.Repeat(fill, impl.MaxBytes-4))
		wantEntryRead(t, most, impl.EntryOut{Code: impl.ErrSyntax})
		wantEntryRead(t, strings.Repeat(fill, impl.MaxBytes), impl.EntryOut{Code: impl.ErrSum})
		wantEntryRead(t, plainSeal(strings.Repeat(fill, impl.MaxBytes-3)), impl.EntryOut{Code: impl.ErrSize})
		wantEntryRead(t, strings.Repeat(fill, impl.MaxBytes+1), impl.EntryOut{Code: impl.ErrSize})
	}
}
