package tests

import (
	"math/rand/v2"
	"slices"
	"testing"

	"loop.example/g00658/impl"
)

func wantSlotted(t *testing.T, code int64, d impl.Disk, r int64, odd bool, f impl.Frame) impl.Disk {
	t.Helper()
	return wantCalled(t, "DiskSlot", code, impl.DiskSlot(d, r, odd, f), plainDiskSlot(d, r, odd, f))
}

// wantBothSlotted does that to both slots.
func wantBothSlotted(t *testing.T, code int64, d impl.Disk, r int64, f impl.Frame) {
	t.Helper()
	wantSlotted(t, code, d, r, false, f)
	wantSlotted(t, code, d, r, true, f)
}

// TestDiskSlotReplaces writes to full and to empty slots: what was in the slot is gone, the other slot and the log stay.
func TestDiskSlotReplaces(t *testing.T) {
	for _, d := range []impl.Disk{impl.DiskNew(3), smallDisk(-1), fullDisk(-1), smallDisk(impl.MaxTime), withLog(logOfFrames(12), -1)} {
		for r, g := range d.Regions {
			for _, f := range []impl.Frame{frame(0, ""), frame(6, "a"), frame(2, textOf(100)), frame(impl.MaxTime, textOf(2980))} {
				text := plainFrameBytes(f)
				wantParts(t, wantSlotted(t, impl.OK, d, int64(r), false, f), r, text, g.Odd, g.Log)
				wantParts(t, wantSlotted(t, impl.OK, d, int64(r), true, f), r, g.Even, text, g.Log)
			}
		}
	}
	for _, f := range rightFrames() {
		wantBothSlotted(t, impl.OK, impl.DiskNew(2), 1, f)
	}
}

// TestDiskSlotPower has a power of exactly as many bytes as are written, one less and one more, and those at the limits. The slot is emptied before.
func TestDiskSlotPower(t *testing.T) {
	for _, f := range []impl.Frame{frame(9, ""), frame(9, "a"), frame(impl.MaxTime, textOf(56)), frame(0, textOf(2980))} {
		text := plainFrameBytes(f)
		n := int64(len(text))
		for _, power := range []int64{-1, n, n + 1, impl.MaxTime - 1, impl.MaxTime} {
			d := wantSlotted(t, impl.OK, smallDisk(power), 0, true, f)
			wantParts(t, d, 0, smallDisk(0).Regions[0].Even, text, smallDisk(0).Regions[0].Log)
			if power == -1 && d.Power != -1 || power >= 0 && d.Power != power-n {
				t.Errorf("of the power %d, %d is left after %d bytes", power, d.Power, n)
			}
			wantSlotted(t, impl.OK, smallDisk(power), 0, false, f)
		}
		for _, power := range []int64{1, 2, n / 2, n - 2, n - 1} {
			d := wantSlotted(t, impl.ErrDown, smallDisk(power), 0, true, f)
			wantParts(t, d, 0, smallDisk(0).Regions[0].Even, text[:power], smallDisk(0).Regions[0].Log)
			if d.Power != 0 {
				t.Errorf("of the power %d, %d is left", power, d.Power)
			}
			wantSlotted(t, impl.ErrDown, smallDisk(power), 0, false, f)
		}
		// Without power, the slot is not even emptied.
		for _, odd := range []bool{false, true} {
			if d := wantSlotted(t, impl.ErrDown, smallDisk(0), 0, odd, f); !sameDisk(d, smallDisk(0)) {
				t.Errorf("without power, the disk has changed to %v", lensOf(d))
			}
		}
		for _, power := range wrongPowers() {
			wantBothSlotted(t, impl.ErrForm, smallDisk(power), 0, f)
		}
	}
}

func TestDiskSlotOfRegions(t *testing.T) {
	f := frame(9, "a")
	for _, n := range []int64{1, 2, 3, 13} {
		for r := range n {
			for _, odd := range []bool{false, true} {
				d := wantSlotted(t, impl.OK, impl.DiskNew(n), r, odd, f)
				for k := range d.Regions {
					var want [2]string
					if int64(k) == r {
						want[btoi(odd)] = plainFrameBytes(f)
					}
					wantParts(t, d, k, want[0], want[1], "")
				}
			}
		}
		for _, r := range append(wrongNums(), -2, -1, n, n+1, 13, 14, 1<<32) {
			wantBothSlotted(t, impl.ErrNone, impl.DiskNew(n), r, f)
			wantBothSlotted(t, impl.ErrNone, withPower(impl.DiskNew(n), 0), r, f)
			wantBothSlotted(t, impl.ErrNone, impl.DiskNew(n), r, frame(-1, ""))
		}
	}
}

func TestDiskSlotOfMixedDisks(t *testing.T) {
	r := rand.New(rand.NewPCG(32, 3))
	count := map[int64]int{}
	for range 6000 {
		d := mixedDisk(r)
		if r.IntN(8) == 0 {
			spoilDisk(r, &d)
		}
		at, odd, f := mixedRegion(r, d), r.IntN(2) == 0, mixedFrame(r, 40)
		want := plainDiskSlot(d, at, odd, f)
		count[want.Code]++
		wantSlotted(t, want.Code, d, at, odd, f)
	}
	if len(count) != 5 || slices.Min([]int{count[impl.OK], count[impl.ErrForm], count[impl.ErrNone], count[impl.ErrDown], count[impl.ErrSize]}) < 100 {
		t.Errorf("the calls are too much alike: %v", count)
	}
}
