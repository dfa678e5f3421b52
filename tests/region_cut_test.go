package tests

import (
	"math/rand/v2"
	"slices"
	"strings"
	"testing"

	"loop.example/g00658/impl"
)

func wantWiped(t *testing.T, code int64, d impl.Disk, r int64) impl.Disk {
	t.Helper()
	return wantCalled(t, "DiskWipe", code, impl.DiskWipe(d, r), plainDiskWipe(d, r))
}

func wantTrimmed(t *testing.T, code int64, d impl.Disk, r int64) impl.Disk {
	t.Helper()
	return wantCalled(t, "DiskTrim", code, impl.DiskTrim(d, r), plainDiskTrim(d, r))
}

// wantBothCut wipes and trims a log.
func wantBothCut(t *testing.T, code int64, d impl.Disk, r int64) {
	t.Helper()
	wantWiped(t, code, d, r)
	wantTrimmed(t, code, d, r)
}

// TestDiskWipe empties the log of one region: its slots and all other regions stay, and so does the power.
func TestDiskWipe(t *testing.T) {
	for _, power := range []int64{-1, 1, 2, 3000, impl.MaxTime} {
		for _, d := range []impl.Disk{withPower(impl.DiskNew(2), power), smallDisk(power), fullDisk(power), withLog(logOfFrames(12), power)} {
			for r, g := range d.Regions {
				wiped := wantWiped(t, impl.OK, d, int64(r))
				wantParts(t, wiped, r, g.Even, g.Odd, "")
				if wiped.Power != power {
					t.Errorf("the power is %d, not %d", wiped.Power, power)
				}
				wantWiped(t, impl.OK, wiped, int64(r))
			}
		}
	}
}

// TestDiskTrim has logs with bytes behind their last complete frame, and ones without.
func TestDiskTrim(t *testing.T) {
	for _, frames := range [][]impl.Frame{nil, framesAt(0), framesAt(4), framesAt(1, 2, 9), {frame(3, textOf(2980))}, {frame(3, textOf(1400)), frame(4, textOf(1400))}} {
		log := logFrom(frames...)
		for _, behind := range []string{"", "x", "zz", "\x00", strings.Repeat("\x00", 10), logFrom(frame(90, "a"))[:9], logFrom(frame(impl.MaxTime+1, "")), textOf(3000)} {
			if behind == "" || len(log) < 3000 {
				whole := (log + behind)[:min(len(log)+len(behind), 3000)]
				for _, power := range []int64{-1, 1, 7, impl.MaxTime} {
					d := wantTrimmed(t, impl.OK, withLog(whole, power), 1)
					wantParts(t, d, 1, "e", "o", log)
					if d.Power != power {
						t.Errorf("the power is %d, not %d", d.Power, power)
					}
					wantTrimmed(t, impl.OK, d, 1)
				}
			}
		}
	}
	// What does not increase goes, too.
	wantParts(t, wantTrimmed(t, impl.OK, withLog(logFrom(framesAt(1, 5, 5, 6)...), -1), 1), 1, "e", "o", logFrom(framesAt(1, 5)...))
	wantParts(t, wantTrimmed(t, impl.OK, withLog(logFrom(framesAt(1, 5, 3)...), -1), 1), 1, "e", "o", logFrom(framesAt(1, 5)...))
	wantParts(t, wantTrimmed(t, impl.OK, withLog(logFrom(framesAt(2, 0, 1)...), -1), 1), 1, "e", "o", logFrom(framesAt(2)...))
}

// TestDiskTrimOfEveryCut trims a truncated log, and one with a changed byte: the complete frames before the damage stay.
func TestDiskTrimOfEveryCut(t *testing.T) {
	frames := []impl.Frame{frame(0, "ab"), frame(3, textOf(60)), frame(4, ""), frame(900, "abc")}
	log := logFrom(frames...)
	for cut := range len(log) + 1 {
		want := logFrom(frames[:wholeFrames(frames, cut)]...)
		wantParts(t, wantTrimmed(t, impl.OK, withLog(log[:cut], -1), 1), 1, "e", "o", want)
		if cut < len(log) {
			wantParts(t, wantTrimmed(t, impl.OK, withLog(changed(log, cut, 5), -1), 1), 1, "e", "o", want)
		}
	}
}

// TestTrimmedLogsGoOn adds a frame behind what a failure of power has left: it is read only if the log has been trimmed.
func TestTrimmedLogsGoOn(t *testing.T) {
	frames := framesAt(1, 2)
	for power := int64(1); power < 10; power++ {
		d := wantAddedTo(t, impl.ErrDown, withLog(logFrom(frames...), power), 1, frame(3, "a"))
		d.Power = -1
		untrimmed := wantAddedTo(t, impl.OK, d, 1, frame(3, "a"))
		wantFrames(t, untrimmed.Regions[1].Log, frames, 2)
		trimmed := wantAddedTo(t, impl.OK, wantTrimmed(t, impl.OK, d, 1), 1, frame(3, "a"))
		wantFrames(t, trimmed.Regions[1].Log, append(framesAt(1, 2), frame(3, "a")), 3)
	}
}

func TestDiskCutOfRegions(t *testing.T) {
	for _, n := range []int64{1, 2, 3, 13} {
		d := impl.DiskNew(n)
		for r := range d.Regions {
			d.Regions[r].Log = logFrom(frame(int64(r), "")) + "x"
		}
		for r := range n {
			wantBothCut(t, impl.OK, d, r)
		}
		for _, r := range append(wrongNums(), -2, -1, n, n+1, 13, 14, 1<<32) {
			wantBothCut(t, impl.ErrNone, d, r)
			wantBothCut(t, impl.ErrNone, withPower(d, 0), r)
		}
	}
}

// TestDiskCutWithoutPower returns the disk as it is.
func TestDiskCutWithoutPower(t *testing.T) {
	for _, d := range []impl.Disk{smallDisk(0), fullDisk(0), withPower(impl.DiskNew(1), 0), withLog(logOfFrames(30), 0)} {
		for r := range d.Regions {
			for _, got := range []impl.Disk{wantWiped(t, impl.ErrDown, d, int64(r)), wantTrimmed(t, impl.ErrDown, d, int64(r))} {
				if !sameDisk(got, d) {
					t.Errorf("without power, the disk has changed to %v", lensOf(got))
				}
			}
		}
	}
}

func TestDiskCutOfMixedDisks(t *testing.T) {
	r := rand.New(rand.NewPCG(32, 4))
	count := map[int64]int{}
	for range 6000 {
		d := mixedDisk(r)
		if r.IntN(8) == 0 {
			spoilDisk(r, &d)
		}
		at := mixedRegion(r, d)
		want := plainDiskTrim(d, at)
		count[want.Code]++
		wantBothCut(t, want.Code, d, at)
	}
	if len(count) != 4 || slices.Min([]int{count[impl.OK], count[impl.ErrForm], count[impl.ErrNone], count[impl.ErrDown]}) < 100 {
		t.Errorf("the calls are too much alike: %v", count)
	}
}
