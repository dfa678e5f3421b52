package tests

import (
	"math"
	"math/rand/v2"
	"strings"
	"testing"

	"loop.example/g00658/impl"
)

func wantFrameRead(t *testing.T, log string, at int64, want impl.FrameOut) {
	t.Helper()
	got := impl.FrameRead(log, at)
	if got != want || got != plainFrameRead(log, at) {
		t.Errorf("FrameRead(%q, %d): code %d, at %d, number %d, %d bytes, want code %d, at %d, number %d, %d bytes", short(log), at,
			got.Code, got.At, got.Frame.Seq, len(got.Frame.Text), want.Code, want.At, want.Frame.Seq, len(want.Frame.Text))
	}
	if got.Code != impl.OK && got != (impl.FrameOut{Code: got.Code}) {
		t.Errorf("FrameRead(%q, %d): code %d, and something beside it", short(log), at, got.Code)
	}
}

// wantFrame compares the encoding of a frame, and what is decoded from it, alone and among other bytes.
func wantFrame(t *testing.T, right bool, f impl.Frame) {
	t.Helper()
	text := impl.FrameBytes(f)
	if text != plainFrameBytes(f) || right != plainFrameRight(f) || right != (text != "") {
		t.Errorf("FrameBytes of the number %d and %d bytes: %d bytes, %q", f.Seq, len(f.Text), len(text), short(text))
	}
	if !right {
		return
	}
	wantFrameRead(t, text, 0, impl.FrameOut{Frame: f, At: int64(len(text))})
	wantFrameRead(t, "\x80x"+text+"\x00\xff", 2, impl.FrameOut{Frame: f, At: int64(len(text)) + 2})
	wantFrameRead(t, text+text, int64(len(text)), impl.FrameOut{Frame: f, At: int64(2 * len(text))})
}

// wantFrameCode reads what is not a frame, alone and among other bytes.
func wantFrameCode(t *testing.T, code int64, text string) {
	t.Helper()
	wantFrameRead(t, text, 0, impl.FrameOut{Code: code})
	wantFrameRead(t, "\x02"+text, 1, impl.FrameOut{Code: code})
}

// TestFrameExample has the bytes of the frames in the example of chapter 17, and others, written out.
func TestFrameExample(t *testing.T) {
	for text, f := range map[string]impl.Frame{
		"\x12\x01\x00\x00\x00\x61\x63\x8f\xf7\xc1": frame(1, "a"),
		"\x12\x02\x00\x00\x00\x62\x09\xa4\x5e\x1f": frame(2, "b"),
		"\x10\x00\x00\x00\x00\x1c\xdf\x44\x21":     frame(0, ""),
		"\x10\x40\x42\x0f\x00\x40\xc2\xd6\x4e":     frame(impl.MaxTime, ""),
	} {
		if got := impl.FrameBytes(f); got != text {
			t.Errorf("FrameBytes(%+v) = % x", f, got)
		}
		wantFrame(t, true, f)
	}
	one, two := impl.FrameBytes(frame(1, "a")), impl.FrameBytes(frame(2, "b"))
	wantFrameRead(t, one+two, 0, impl.FrameOut{Frame: frame(1, "a"), At: 10})
	wantFrameRead(t, one+two, 10, impl.FrameOut{Frame: frame(2, "b"), At: 20})
}

// TestFrameIsDecoded is the first part of promise 30.
func TestFrameIsDecoded(t *testing.T) {
	for _, f := range rightFrames() {
		wantFrame(t, true, f)
	}
	for _, f := range wrongFrames() {
		wantFrame(t, false, f)
	}
	r := rand.New(rand.NewPCG(30, 1))
	for range 3000 {
		wantFrame(t, true, frame(r.Int64N(impl.MaxTime+1), mixedText(r, r.IntN(300))))
	}
}

func TestFrameNumberLimits(t *testing.T) {
	for _, seq := range append(edgeNums(), seqLimits()...) {
		wantFrame(t, seq >= 0 && seq <= impl.MaxTime, frame(seq, ""))
		wantFrame(t, seq >= 0 && seq <= impl.MaxTime, frame(seq, "text"))
	}
}

func TestFrameTextLimits(t *testing.T) {
	for _, size := range []int{0, 1, 2, 100, impl.MaxSlot - 21, impl.MaxSlot - 20, impl.MaxSlot - 19, impl.MaxSlot, impl.MaxBytes - 8, impl.MaxBytes, impl.MaxBytes + 1} {
		for _, seq := range []int64{0, 1, impl.MaxTime} {
			wantFrame(t, size <= 2980, frame(seq, textOf(size)))
		}
	}
	if got := len(impl.FrameBytes(frame(impl.MaxTime, textOf(2980)))); got != 2990 {
		t.Errorf("the longest frame has %d bytes", got)
	}
}

// TestFramesOfEqualLength has texts of each length, with many numbers and contents.
func TestFramesOfEqualLength(t *testing.T) {
	r := rand.New(rand.NewPCG(30, 2))
	for size := range impl.MaxSlot - 19 {
		// A length of 64 is the first one that needs two bytes.
		want := 1 + 4 + size + 4 + btoi(4+size+4 >= 64)
		for _, f := range []impl.Frame{frame(0, strings.Repeat("\x00", size)), frame(impl.MaxTime, strings.Repeat("\xff", size)), frame(r.Int64N(impl.MaxTime+1), mixedText(r, size))} {
			if got := len(impl.FrameBytes(f)); got != want {
				t.Errorf("the frame with number %d and %d bytes of text has %d bytes, want %d", f.Seq, size, got, want)
			}
		}
	}
}

func TestFrameOffsets(t *testing.T) {
	log := logFrom(frame(3, "abc"), frame(4, ""), frame(2, textOf(80)))
	wantFrameRead(t, log, 0, impl.FrameOut{Frame: frame(3, "abc"), At: 12})
	wantFrameRead(t, log, 12, impl.FrameOut{Frame: frame(4, ""), At: 21})
	wantFrameRead(t, log, 21, impl.FrameOut{Frame: frame(2, textOf(80)), At: 111})
	for at := range int64(len(log)) {
		if at != 0 && at != 12 && at != 21 {
			want := impl.FrameOut{Code: plainFrameRead(log, at).Code}
			if want.Code == impl.OK {
				t.Errorf("a frame within another one at %d", at)
			}
			wantFrameRead(t, log, at, want)
		}
	}
	for _, text := range []string{log, "", "\x00"} {
		for _, at := range []int64{-1, -2, -int64(len(log)), math.MinInt64, math.MinInt64 + 1} {
			wantFrameRead(t, text, at, impl.FrameOut{Code: impl.ErrForm})
		}
		for _, at := range []int64{0, 1, 2, 12, impl.MaxBytes, 1 << 32, math.MaxInt64 - 9, math.MaxInt64} {
			wantFrameRead(t, text, int64(len(text))+min(at, math.MaxInt64-int64(len(text))), impl.FrameOut{Code: impl.ErrShort})
		}
	}
}

func TestFrameEndsTooEarly(t *testing.T) {
	for _, f := range []impl.Frame{frame(0, ""), frame(1, "a"), frame(impl.MaxTime, textOf(55)), frame(7, textOf(56)), frame(300, textOf(200)), frame(5, textOf(2980))} {
		text := impl.FrameBytes(f)
		for cut := range len(text) {
			wantFrameRead(t, text[:cut], 0, impl.FrameOut{Code: impl.ErrShort})
		}
	}
}

// TestFrameOfOneChangedByte has each byte changed in each way: what is read is no frame.
func TestFrameOfOneChangedByte(t *testing.T) {
	count := map[int64]int{}
	for _, f := range []impl.Frame{frame(0, ""), frame(1, "a"), frame(1000, textOf(30)), frame(impl.MaxTime, textOf(80))} {
		text := impl.FrameBytes(f)
		for i := range len(text) {
			for change := 1; change < 256; change++ {
				for _, behind := range []string{"", text, strings.Repeat("\x00", 300)} {
					broken := changed(text, i, byte(change)) + behind
					code := plainFrameRead(broken, 0).Code
					if code == impl.OK {
						t.Fatalf("byte %d of %d is changed by %d, and there is a frame", i, len(text), change)
					}
					count[code]++
					wantFrameRead(t, broken, 0, impl.FrameOut{Code: code})
				}
			}
		}
	}
	if len(count) != 3 || count[impl.ErrSum] < 1000 || count[impl.ErrShort] < 100 || count[impl.ErrSyntax] < 100 {
		t.Errorf("the codes are %v", count)
	}
}

// TestFrameOfOtherLengths has malformed and wrong lengths in front of the seal of a frame.
func TestFrameOfOtherLengths(t *testing.T) {
	seal := plainSeal("\x01\x00\x00\x00a")
	for _, n := range []int64{-1, -9, impl.MaxBytes + 1, 1 << 32, 1<<62 + 9, math.MaxInt64, math.MinInt64} {
		wantFrameCode(t, impl.ErrSyntax, numText(n)+seal)
	}
	for _, head := range []string{"\x92\x00", "\x92\x80\x00", strings.Repeat("\x80", 9) + "\x02", strings.Repeat("\xff", 10)} {
		wantFrameCode(t, impl.ErrSyntax, head+seal)
	}
	for _, head := range []string{numText(10), numText(impl.MaxBytes)} {
		wantFrameCode(t, impl.ErrShort, head+seal)
	}
	for n := range int64(9) {
		// The seal needs four bytes, and those of this one are not at their place.
		code := int64(impl.ErrSum)
		if n < 4 {
			code = impl.ErrShort
		}
		wantFrameCode(t, code, numText(n)+seal)
	}
	wantFrameCode(t, impl.ErrShort, "\x80")
	wantFrameCode(t, impl.ErrShort, "\xff\xff\xff\xff\xff\xff\xff\xff\xff")
}

// TestFrameOfOtherSeals has texts of any length that are no seal.
func TestFrameOfOtherSeals(t *testing.T) {
	for _, text := range []string{"", "\x00", "\x00\x00", "\x00\x00\x00", "abc"} {
		wantFrameCode(t, impl.ErrShort, lined(text))
	}
	for _, text := range []string{"abcd", "\x00\x00\x00\x01", "\x01\x00\x00\x00a\x63\x8f\xf7", "\x01\x00\x00\x00a\xc1\xf7\x8f\x63", textOf(300), plainSeal("text") + "x", "x" + plainSeal("text")} {
		wantFrameCode(t, impl.ErrSum, lined(text))
	}
}

// TestFrameOfWrongContents has seals that are right, and contents that are not those of a frame.
func TestFrameOfWrongContents(t *testing.T) {
	for _, content := range []string{"", "\x00", "\x01\x00", "\x01\x00\x00", "abc"} {
		wantFrameCode(t, impl.ErrSyntax, lined(plainSeal(content)))
	}
	for _, seq := range []int64{impl.MaxTime + 1, impl.MaxTime + 2, 1<<20 + 1, 1 << 24, 1 << 31, 1<<32 - 1, 1<<32 - impl.MaxTime} {
		for _, size := range []int{0, 1, 60, 2980} {
			wantFrameCode(t, impl.ErrSyntax, roughFrame(frame(seq, textOf(size))))
		}
	}
	for _, size := range []int{2981, 2982, 3000, impl.MaxBytes - 20, impl.MaxBytes - 11} {
		for _, seq := range []int64{0, 1, impl.MaxTime, impl.MaxTime + 1} {
			wantFrameCode(t, impl.ErrSyntax, roughFrame(frame(seq, textOf(size))))
		}
	}
	// Each of the four bytes counts, the first one least.
	for text, seq := range map[string]int64{"\x01\x00\x00\x00": 1, "\x00\x01\x00\x00": 256, "\x00\x00\x01\x00": 65536, "\x40\x42\x0f\x00": 1000000, "\xff\xff\x0e\x00": 983039} {
		wantFrameRead(t, lined(plainSeal(text)), 0, impl.FrameOut{Frame: frame(seq, ""), At: 9})
	}
	for _, text := range []string{"\x41\x42\x0f\x00", "\x00\x43\x0f\x00", "\x00\x00\x10\x00", "\x00\x00\x00\x01", "\x00\x00\x00\x80", "\xff\xff\xff\xff"} {
		wantFrameCode(t, impl.ErrSyntax, lined(plainSeal(text)))
	}
}

func TestFrameReadSizeLimit(t *testing.T) {
	text := impl.FrameBytes(frame(9, "text"))
	end := int64(impl.MaxBytes - len(text))
	most := strings.Repeat("\x00", int(end)) + text
	wantFrameRead(t, most, end, impl.FrameOut{Frame: frame(9, "text"), At: impl.MaxBytes})
	wantFrameRead(t, most, impl.MaxBytes, impl.FrameOut{Code: impl.ErrShort})
	wantFrameRead(t, most, -1, impl.FrameOut{Code: impl.ErrForm})
	for _, over := range []string{most + "x", "x" + most, text + textOf(impl.MaxBytes), roughFrame(frame(0, textOf(impl.MaxBytes)))} {
		for _, at := range []int64{0, 1, end, end + 1, impl.MaxBytes, impl.MaxBytes + 1, -1, math.MinInt64, math.MaxInt64} {
			wantFrameRead(t, over, at, impl.FrameOut{Code: impl.ErrSize})
		}
	}
}

// TestFrameReadOrderOfErrors has several faults at once: the first one in the order of the document counts.
func TestFrameReadOrderOfErrors(t *testing.T) {
	content := "\x41\x42\x0f\x00a"
	wantFrameCode(t, impl.ErrSyntax, lined(plainSeal(content)))
	sealed := changed(plainSeal(content), 4, 1)
	wantFrameCode(t, impl.ErrSum, lined(sealed))
	wantFrameCode(t, impl.ErrSum, lined(changed(plainSeal("ab"), 0, 1)))
	wantFrameCode(t, impl.ErrSum, lined(changed(plainSeal("\x00\x00\x00\x00"+textOf(2981)), 9, 1)))
	wantFrameCode(t, impl.ErrShort, lined(sealed)[:len(sealed)])
	wantFrameCode(t, impl.ErrSyntax, "\x92\x00"+sealed[:3])
	wantFrameCode(t, impl.ErrSyntax, numText(impl.MaxBytes+1)+sealed)
	wantFrameRead(t, lined(sealed), -1, impl.FrameOut{Code: impl.ErrForm})
	wantFrameRead(t, strings.Repeat(lined(sealed), 800)+"x", -1, impl.FrameOut{Code: impl.ErrSize})
}

func TestFrameReadOfMixedLogs(t *testing.T) {
	r := rand.New(rand.NewPCG(30, 3))
	count := map[int64]int{}
	for range 4000 {
		log := mixedLog(r, 6)
		at := r.Int64N(int64(len(log))+6) - 2
		if whole := impl.LogRead(log); r.IntN(2) == 0 {
			at = whole.Size
		}
		want := plainFrameRead(log, at)
		count[want.Code]++
		wantFrameRead(t, log, at, want)
		wantFrameRead(t, log, 0, plainFrameRead(log, 0))
	}
	if len(count) != 5 {
		t.Errorf("the codes are %v", count)
	}
}
