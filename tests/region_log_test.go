package tests

import (
	"math/rand/v2"
	"slices"
	"strings"
	"testing"

	"loop.example/g00658/impl"
)

func sameLogOut(a impl.LogOut, b impl.LogOut) bool {
	return slices.Equal(a.Frames, b.Frames) && a.Size == b.Size && a.Code == b.Code
}

func wantLog(t *testing.T, log string, want impl.LogOut) {
	t.Helper()
	got := impl.LogRead(log)
	if !sameLogOut(got, want) || !sameLogOut(got, plainLogRead(log)) {
		t.Errorf("LogRead(%q), %d bytes: code %d, size %d, %d frames, want code %d, size %d, %d frames", short(log), len(log),
			got.Code, got.Size, len(got.Frames), want.Code, want.Size, len(want.Frames))
	}
}

// wantFrames says that the frames of a log are so many of the first of some frames.
func wantFrames(t *testing.T, log string, frames []impl.Frame, n int) {
	t.Helper()
	wantLog(t, log, impl.LogOut{Frames: frames[:n], Size: int64(len(logFrom(frames[:n]...)))})
}

// wholeFrames counts the frames that end within the first so many bytes of their log.
func wholeFrames(frames []impl.Frame, size int) int {
	n := 0
	for n < len(frames) && len(logFrom(frames[:n+1]...)) <= size {
		n++
	}
	return n
}

// risingFrames makes frames with numbers that increase, and any texts.
func risingFrames(r *rand.Rand, n int) []impl.Frame {
	var frames []impl.Frame
	seq := r.Int64N(4)
	for range n {
		frames = append(frames, frame(seq, mixedText(r, mixedSize(r)%70)))
		seq += 1 + r.Int64N(4)*r.Int64N(300)
	}
	return frames
}

// TestLogExample is the example of chapter 17.
func TestLogExample(t *testing.T) {
	a, b := frame(1, "a"), frame(2, "b")
	x, y := impl.FrameBytes(a), impl.FrameBytes(b)
	wantLog(t, x+y, impl.LogOut{Frames: []impl.Frame{a, b}, Size: 20})
	wantLog(t, y+x, impl.LogOut{Frames: []impl.Frame{b}, Size: 10})
	wantLog(t, (x + y)[:19], impl.LogOut{Frames: []impl.Frame{a}, Size: 10})
	wantLog(t, "", impl.LogOut{})
}

// TestLogOfEveryCut is promise 30: of a truncated log, the complete frames are read.
func TestLogOfEveryCut(t *testing.T) {
	r := rand.New(rand.NewPCG(30, 4))
	logs := [][]impl.Frame{framesAt(0, 1, 2), framesAt(7), {frame(3, textOf(60)), frame(4, ""), frame(900, textOf(300))}}
	for range 30 {
		logs = append(logs, risingFrames(r, 1+r.IntN(8)))
	}
	for _, frames := range logs {
		log := logFrom(frames...)
		for cut := range len(log) + 1 {
			wantFrames(t, log[:cut], frames, wholeFrames(frames, cut))
		}
	}
}

// TestLogOfOneChangedByte is promise 30: of a log with one changed byte, in the last frame or in any other, the frames before the damage are read.
func TestLogOfOneChangedByte(t *testing.T) {
	r := rand.New(rand.NewPCG(30, 5))
	logs := [][]impl.Frame{framesAt(0, 1, 2), framesAt(7), {frame(3, textOf(60)), frame(4, ""), frame(900, textOf(80))}}
	for range 10 {
		logs = append(logs, risingFrames(r, 2+r.IntN(4)))
	}
	for _, frames := range logs {
		log := logFrom(frames...)
		for i := range len(log) {
			before := wholeFrames(frames, i)
			for _, change := range []byte{1, 2, 4, 8, 0x10, 0x12, 0x20, 0x40, 0x7f, 0x80, 0xff} {
				wantFrames(t, changed(log, i, change), frames, before)
			}
		}
	}
	// All changes of the last frame.
	frames := []impl.Frame{frame(5, "before"), frame(8, textOf(70))}
	log := logFrom(frames...)
	for i := len(logFrom(frames[0])); i < len(log); i++ {
		for change := 1; change < 256; change++ {
			wantFrames(t, changed(log, i, byte(change)), frames, 1)
		}
	}
}

// TestLogOfDamageAndMore has a frame behind a cut or a changed one, which is not read.
func TestLogOfDamageAndMore(t *testing.T) {
	frames := framesAt(1, 4, 6)
	log, more := logFrom(frames...), logFrom(frame(9, "more"))
	for cut := 1; cut < len(log); cut++ {
		if n := wholeFrames(frames, cut); len(logFrom(frames[:n]...)) < cut {
			wantFrames(t, log[:cut]+more, frames, n)
		}
	}
	for i := range len(log) {
		wantFrames(t, changed(log, i, 3)+more, frames, wholeFrames(frames, i))
	}
}

// TestLogOfNumbers has numbers that do not increase, anywhere: the log ends before the first of them.
func TestLogOfNumbers(t *testing.T) {
	for _, c := range []struct {
		seqs []int64
		want int
	}{
		{[]int64{0}, 1}, {[]int64{0, 0}, 1}, {[]int64{0, 1}, 2}, {[]int64{1}, 1}, {[]int64{5}, 1}, {[]int64{impl.MaxTime}, 1}, {[]int64{impl.MaxTime, 0}, 1},
		{[]int64{1, 1}, 1}, {[]int64{1, 2, 2}, 2}, {[]int64{1, 2, 2, 3}, 2}, {[]int64{1, 2, 1, 3}, 2}, {[]int64{2, 1, 3}, 1}, {[]int64{5, 4, 3}, 1},
		{[]int64{1, 3, 9, 1000, impl.MaxTime}, 5}, {[]int64{0, impl.MaxTime - 1, impl.MaxTime, impl.MaxTime}, 3}, {[]int64{3, 0}, 1}, {[]int64{0, 0, 1}, 1},
		{[]int64{255, 256, 257}, 3}, {[]int64{256, 255}, 1}, {[]int64{65535, 65536, 65537, 65536}, 3}, {[]int64{1, 256, 2}, 2}, {[]int64{7, 8, 8}, 2}, {[]int64{7, 8, 7}, 2},
	} {
		frames := framesAt(c.seqs...)
		wantFrames(t, logFrom(frames...), frames, c.want)
	}
	// The same frame twice.
	again := frame(4, "again")
	wantFrames(t, logFrom(again, again, frame(5, "")), []impl.Frame{again}, 1)
}

// TestLogOfOtherBytes has what is no frame at the start and behind frames.
func TestLogOfOtherBytes(t *testing.T) {
	texts := []string{
		"\x00", "\x01", "\x02", "\x80", "\x80\x00", "x", "zz", "\x12", strings.Repeat("\x00", 50), strings.Repeat("\xff", 50), textOf(300), lined("x"), lined("\x00\x00\x00\x00"),
		lined("abcd"), lined(plainSeal("")), lined(plainSeal("abc")), roughFrame(frame(impl.MaxTime+1, "")), roughFrame(frame(1<<32-1, "")), roughFrame(frame(50, textOf(2981))),
		numText(-9) + plainSeal("\x09\x00\x00\x00a"), "\x92\x00" + plainSeal("\x09\x00\x00\x00a"),
	}
	for _, frames := range [][]impl.Frame{nil, framesAt(0), framesAt(1, 2), framesAt(1, 5, 7, 20)} {
		for _, text := range texts {
			wantFrames(t, logFrom(frames...)+text, frames, len(frames))
			wantFrames(t, logFrom(frames...)+text+logFrom(frame(60, "behind")), frames, len(frames))
		}
	}
}

func TestLogReadSizeLimit(t *testing.T) {
	var frames []impl.Frame
	for seq := range int64(888) {
		frames = append(frames, frame(seq, ""))
	}
	log := logFrom(frames...)
	wantFrames(t, log, frames, 888)
	wantFrames(t, log+strings.Repeat("x", impl.MaxBytes-len(log)), frames, 888)
	// The last frame ends at the limit.
	frames = append(frames[:885], frame(885, textOf(26)))
	log = logFrom(frames...)
	if len(log) != impl.MaxBytes {
		t.Fatalf("the log has %d bytes", len(log))
	}
	wantFrames(t, log, frames, 886)
	for _, over := range []string{log + "x", log + logFrom(frame(900, "")), strings.Repeat("x", impl.MaxBytes+1), textOf(20000)} {
		wantLog(t, over, impl.LogOut{Code: impl.ErrSize})
	}
	wantLog(t, strings.Repeat("x", impl.MaxBytes), impl.LogOut{})
	long := []impl.Frame{frame(0, textOf(2980)), frame(1, textOf(2980)), frame(2, textOf(2000))}
	wantFrames(t, logFrom(long...), long, 3)
}

func TestLogReadOfMixedLogs(t *testing.T) {
	r := rand.New(rand.NewPCG(30, 6))
	count := map[int]int{}
	for range 4000 {
		log := mixedLog(r, 14)
		want := plainLogRead(log)
		count[len(want.Frames)]++
		count[100] += btoi(want.Size < int64(len(log)))
		wantLog(t, log, want)
	}
	if count[0] < 100 || count[11] < 20 || count[12] < 20 || count[13] < 20 || count[100] < 500 {
		t.Errorf("the logs are too much alike: %v", count)
	}
}
