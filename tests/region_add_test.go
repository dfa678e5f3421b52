package tests

import (
	"math/rand/v2"
	"slices"
	"strings"
	"testing"

	"loop.example/g00658/impl"
)

func wantAddedTo(t *testing.T, code int64, d impl.Disk, r int64, f impl.Frame) impl.Disk {
	t.Helper()
	return wantCalled(t, "DiskAdd", code, impl.DiskAdd(d, r, f), plainDiskAdd(d, r, f))
}

// wantParts compares the parts of one region.
func wantParts(t *testing.T, d impl.Disk, r int, even string, odd string, log string) {
	t.Helper()
	if d.Regions[r] != (impl.Region{Even: even, Odd: odd, Log: log}) {
		t.Errorf("region %d has %d, %d and %d bytes, want %d, %d and %d", r,
			len(d.Regions[r].Even), len(d.Regions[r].Odd), len(d.Regions[r].Log), len(even), len(odd), len(log))
	}
}

// TestDiskAddExample is the example of chapter 17.
func TestDiskAddExample(t *testing.T) {
	a, b := frame(1, "a"), frame(2, "b")
	d := wantAddedTo(t, impl.OK, withPower(impl.DiskNew(1), 13), 0, a)
	if d.Power != 3 {
		t.Errorf("the power is %d", d.Power)
	}
	d = wantAddedTo(t, impl.ErrDown, d, 0, b)
	wantParts(t, d, 0, "", "", "\x12\x01\x00\x00\x00\x61\x63\x8f\xf7\xc1\x12\x02\x00")
	if d.Power != 0 {
		t.Errorf("the power is %d", d.Power)
	}
	wantParts(t, wantAddedTo(t, impl.ErrDown, d, 0, b), 0, "", "", d.Regions[0].Log)
}

// TestDiskAddAppends adds frames to each region in turn, without a limit: what was there stays in front.
func TestDiskAddAppends(t *testing.T) {
	d := smallDisk(-1)
	logs := []string{d.Regions[0].Log, d.Regions[1].Log, d.Regions[2].Log}
	for i, f := range framesAt(9, 1, 9, 0, impl.MaxTime, 12) {
		r := i % 3
		d = wantAddedTo(t, impl.OK, d, int64(r), f)
		logs[r] += plainFrameBytes(f)
		for k, g := range smallDisk(-1).Regions {
			wantParts(t, d, k, g.Even, g.Odd, logs[k])
		}
		if d.Power != -1 {
			t.Errorf("the power is %d", d.Power)
		}
	}
	for _, f := range rightFrames() {
		wantParts(t, wantAddedTo(t, impl.OK, impl.DiskNew(2), 1, f), 1, "", "", plainFrameBytes(f))
	}
}

// TestDiskAddPower has a power of exactly as many bytes as are written, one less and one more, and those at the limits.
func TestDiskAddPower(t *testing.T) {
	for _, f := range []impl.Frame{frame(9, ""), frame(9, "a"), frame(impl.MaxTime, textOf(56)), frame(0, textOf(2000))} {
		text := plainFrameBytes(f)
		n := int64(len(text))
		for _, power := range []int64{-1, n, n + 1, n + 2, impl.MaxTime - 1, impl.MaxTime} {
			d := wantAddedTo(t, impl.OK, smallDisk(power), 1, f)
			wantParts(t, d, 1, smallDisk(0).Regions[1].Even, smallDisk(0).Regions[1].Odd, smallDisk(0).Regions[1].Log+text)
			if power == -1 && d.Power != -1 || power >= 0 && d.Power != power-n {
				t.Errorf("of the power %d, %d is left after %d bytes", power, d.Power, n)
			}
		}
		for _, power := range []int64{0, 1, 2, n / 2, n - 2, n - 1} {
			d := wantAddedTo(t, impl.ErrDown, smallDisk(power), 1, f)
			wantParts(t, d, 1, smallDisk(0).Regions[1].Even, smallDisk(0).Regions[1].Odd, smallDisk(0).Regions[1].Log+text[:power])
			if d.Power != 0 {
				t.Errorf("of the power %d, %d is left", power, d.Power)
			}
		}
		for _, power := range wrongPowers() {
			wantAddedTo(t, impl.ErrForm, smallDisk(power), 1, f)
		}
	}
}

// TestDiskAddAfterExactPower has no power left: the last frame is complete, the next one is refused.
func TestDiskAddAfterExactPower(t *testing.T) {
	d := wantAddedTo(t, impl.OK, withPower(impl.DiskNew(1), 20), 0, frame(1, "a"))
	d = wantAddedTo(t, impl.OK, d, 0, frame(2, "b"))
	if d.Power != 0 || len(impl.LogRead(d.Regions[0].Log).Frames) != 2 {
		t.Errorf("the disk is %v", lensOf(d))
	}
	wantParts(t, wantAddedTo(t, impl.ErrDown, d, 0, frame(3, "c")), 0, "", "", logFrom(frame(1, "a"), frame(2, "b")))
}

func TestDiskAddOfRegions(t *testing.T) {
	f := frame(9, "a")
	for _, n := range []int64{1, 2, 3, 13} {
		for r := range n {
			d := wantAddedTo(t, impl.OK, impl.DiskNew(n), r, f)
			for k := range d.Regions {
				wantParts(t, d, k, "", "", strings.Repeat(plainFrameBytes(f), btoi(int64(k) == r)))
			}
		}
		for _, r := range append(wrongNums(), -2, -1, n, n+1, 13, 14, 1<<32) {
			wantAddedTo(t, impl.ErrNone, impl.DiskNew(n), r, f)
			wantAddedTo(t, impl.ErrNone, withPower(impl.DiskNew(n), 0), r, f)
			wantAddedTo(t, impl.ErrNone, impl.DiskNew(n), r, frame(-1, ""))
		}
	}
}

// logOfFrames has so many frames, with numbers from 1 on.
func logOfFrames(n int) string {
	log := ""
	for i := range n {
		log += logFrom(frame(int64(i)+1, "x"))
	}
	return log
}

// withLog has a log in the second of three regions. Those of the others are full.
func withLog(log string, power int64) impl.Disk {
	full := impl.Region{Log: logOfFrames(12)}
	return impl.Disk{Regions: []impl.Region{full, {Even: "e", Odd: "o", Log: log}, full}, Power: power}
}

func TestDiskAddCountsFrames(t *testing.T) {
	for n := range 30 {
		code := int64(impl.ErrFull * btoi(n >= 12))
		for _, power := range []int64{-1, 10, 11, impl.MaxTime} {
			wantAddedTo(t, code, withLog(logOfFrames(n), power), 1, frame(50, "y"))
			// Frames that LogRead does not return do not count, whatever their number.
			wantAddedTo(t, code, withLog(logOfFrames(n)+"x", power), 1, frame(50, "y"))
			wantAddedTo(t, code, withLog(logOfFrames(n)+"\x00"+logOfFrames(12), power), 1, frame(50, "y"))
			if n > 0 {
				wantAddedTo(t, code, withLog(logOfFrames(n)+logOfFrames(12), power), 1, frame(50, "y"))
			}
			wantAddedTo(t, impl.OK, withLog("x"+logOfFrames(n), power), 1, frame(50, "y"))
		}
		wantAddedTo(t, impl.ErrDown, withLog(logOfFrames(n), 0), 1, frame(50, "y"))
		if n < 12 {
			wantAddedTo(t, impl.ErrDown, withLog(logOfFrames(n), 9), 1, frame(50, "y"))
		}
	}
	// A frame that does not increase is written, but not counted.
	d := withLog(logOfFrames(11), -1)
	for range 3 {
		d = wantAddedTo(t, impl.OK, d, 1, frame(11, "y"))
	}
	d = wantAddedTo(t, impl.OK, withLog(logOfFrames(11), -1), 1, frame(12, "y"))
	wantAddedTo(t, impl.ErrFull, d, 1, frame(13, "y"))
}

// TestDiskAddWithinTheSize fills a log up to the last byte, with frames or with other bytes.
func TestDiskAddWithinTheSize(t *testing.T) {
	f := frame(50, textOf(91))
	n := len(plainFrameBytes(f))
	for size := 3000 - n - 3; size <= 3000; size++ {
		code := int64(impl.ErrFull * btoi(size+n > 3000))
		head := logFrom(frame(1, textOf(2500)))
		for _, log := range []string{textOf(size), head + strings.Repeat("x", size-len(head)), logFrom(frame(1, textOf(size-10)))} {
			if len(log) != size {
				t.Fatalf("the log has %d bytes", len(log))
			}
			for _, power := range []int64{-1, int64(n), impl.MaxTime} {
				wantAddedTo(t, code, withLog(log, power), 1, f)
			}
			if code == impl.OK {
				wantAddedTo(t, impl.ErrDown, withLog(log, int64(n)-1), 1, f)
			} else {
				// There has to be room for the whole frame, even if there is no power for it.
				wantAddedTo(t, code, withLog(log, 1), 1, f)
			}
		}
	}
	long := frame(0, textOf(2980))
	wantAddedTo(t, impl.OK, withLog(textOf(10), -1), 1, long)
	wantAddedTo(t, impl.ErrFull, withLog(textOf(11), -1), 1, long)
}

func TestDiskAddOfMixedDisks(t *testing.T) {
	r := rand.New(rand.NewPCG(32, 2))
	count := map[int64]int{}
	for range 8000 {
		d := mixedDisk(r)
		if r.IntN(8) == 0 {
			spoilDisk(r, &d)
		}
		at, f := mixedRegion(r, d), mixedFrame(r, 40)
		want := plainDiskAdd(d, at, f)
		count[want.Code]++
		wantAddedTo(t, want.Code, d, at, f)
	}
	if len(count) != 6 || slices.Min([]int{count[impl.OK], count[impl.ErrForm], count[impl.ErrNone], count[impl.ErrDown], count[impl.ErrSize], count[impl.ErrFull]}) < 100 {
		t.Errorf("the calls are too much alike: %v", count)
	}
}
