package tests

import (
	"math"
	"math/rand/v2"
	"testing"

	"loop.example/g00658/impl"
)

// lensOf tells a disk that is printed by the power and by the sizes of its parts.
func lensOf(d impl.Disk) []int64 {
	lens := []int64{d.Power}
	for _, g := range d.Regions[:min(len(d.Regions), 13)] {
		lens = append(lens, int64(len(g.Even)), int64(len(g.Odd)), int64(len(g.Log)))
	}
	return lens
}

func wantDisk(t *testing.T, want bool, d impl.Disk) {
	t.Helper()
	if got := impl.DiskRight(d); got != want || got != plainDiskRight(d) {
		t.Errorf("DiskRight of %d regions, %v = %v, want %v", len(d.Regions), lensOf(d), got, want)
	}
}

// wantDiskOut compares what a call returns with what it should. A disk that is returned is valid, and beside any refusal but ErrDown there is none.
func wantDiskOut(t *testing.T, what string, got impl.DiskOut, want impl.DiskOut) {
	t.Helper()
	if got.Code != want.Code || !sameDisk(got.Disk, want.Disk) {
		t.Fatalf("%s: code %d, %v, want %d, %v", what, got.Code, lensOf(got.Disk), want.Code, lensOf(want.Disk))
	}
	there := got.Code == impl.OK || got.Code == impl.ErrDown
	if there != impl.DiskRight(got.Disk) {
		t.Fatalf("%s: code %d, and DiskRight is %v", what, got.Code, !there)
	}
	if !there && (len(got.Disk.Regions) != 0 || got.Disk.Power != 0) {
		t.Fatalf("%s: code %d, and a disk, %v", what, got.Code, lensOf(got.Disk))
	}
}

// wantCalled is the same for a call on a disk. The code is written out, the disk is that of the document.
func wantCalled(t *testing.T, what string, code int64, got impl.DiskOut, want impl.DiskOut) impl.Disk {
	t.Helper()
	if want.Code != code {
		t.Fatalf("%s: the document has code %d, and %d is expected", what, want.Code, code)
	}
	wantDiskOut(t, what, got, want)
	return got.Disk
}

func TestDiskRightCountsRegions(t *testing.T) {
	for n := range 20 {
		wantDisk(t, n >= 1 && n <= 13, impl.Disk{Regions: make([]impl.Region, n), Power: -1})
	}
	for _, n := range []int{impl.MaxList, impl.MaxList + 1} {
		wantDisk(t, false, impl.Disk{Regions: make([]impl.Region, n)})
	}
	wantDisk(t, false, impl.Disk{})
}

func TestDiskRightOfPowers(t *testing.T) {
	for _, power := range append(edgeNums(), -3, -2, -1, 0, 1, impl.MaxTime-1, impl.MaxTime, impl.MaxTime+1) {
		for _, d := range []impl.Disk{plainDiskNew(1), smallDisk(0), fullDisk(0)} {
			wantDisk(t, power >= -1 && power <= 1000000, withPower(d, power))
		}
	}
}

// TestDiskRightOfSizes has each part of each region too long, and the others full or empty.
func TestDiskRightOfSizes(t *testing.T) {
	for _, d := range []impl.Disk{plainDiskNew(1), plainDiskNew(13), smallDisk(5), fullDisk(-1)} {
		for r := range d.Regions {
			for _, size := range []int{0, 1, 2999, 3000, 3001, 3002, impl.MaxBytes, impl.MaxBytes + 1} {
				wantDisk(t, size <= 3000, withRegion(d, r, func(g *impl.Region) { g.Even = textOf(size) }))
				wantDisk(t, size <= 3000, withRegion(d, r, func(g *impl.Region) { g.Odd = textOf(size) }))
				wantDisk(t, size <= 3000, withRegion(d, r, func(g *impl.Region) { g.Log = textOf(size) }))
			}
		}
	}
	// What is in them does not matter.
	for _, text := range []string{"x", textOf(3000), logFrom(framesAt(2, 1)...), roughFrame(frame(-1, ""))} {
		wantDisk(t, true, impl.Disk{Regions: []impl.Region{{Even: text, Odd: text, Log: text}}})
	}
}

func TestDiskRightOfMixedDisks(t *testing.T) {
	for _, d := range wrongDisks() {
		wantDisk(t, false, d)
	}
	r := rand.New(rand.NewPCG(32, 1))
	count := [2]int{}
	for range 2000 {
		d := mixedDisk(r)
		wantDisk(t, true, d)
		spoilDisk(r, &d)
		count[btoi(plainDiskRight(d))]++
		wantDisk(t, plainDiskRight(d), d)
	}
	if count[0] < 300 || count[1] < 300 {
		t.Errorf("the disks are too much alike: %v", count)
	}
}

func TestDiskNew(t *testing.T) {
	for n := int64(-3); n <= 20; n++ {
		d := impl.DiskNew(n)
		if !sameDisk(d, plainDiskNew(n)) || impl.DiskRight(d) != (n >= 1 && n <= 13) {
			t.Errorf("DiskNew(%d) = %v", n, lensOf(d))
		}
		if len(d.Regions) > 0 && d.Power != -1 {
			t.Errorf("DiskNew(%d) has the power %d", n, d.Power)
		}
	}
	for _, n := range append(wrongNums(), -1, 0, 14, 1<<32+5) {
		if d := impl.DiskNew(n); d.Regions != nil || d.Power != 0 {
			t.Errorf("DiskNew(%d) = %v", n, lensOf(d))
		}
	}
	first, second := impl.DiskNew(2), impl.DiskNew(2)
	first.Regions[0].Log = "x"
	if second.Regions[0].Log != "" || impl.DiskNew(2).Regions[0].Log != "" {
		t.Error("two new disks share memory")
	}
}

func TestWritesOfWrongFrames(t *testing.T) {
	for _, f := range wrongFrames() {
		for _, d := range []impl.Disk{smallDisk(-1), smallDisk(1), smallDisk(impl.MaxTime), withLog(logOfFrames(12), -1), fullDisk(-1)} {
			wantAddedTo(t, impl.ErrSize, d, 1, f)
			wantBothSlotted(t, impl.ErrSize, d, 1, f)
		}
		wantAddedTo(t, impl.ErrDown, smallDisk(0), 1, f)
		wantBothSlotted(t, impl.ErrDown, smallDisk(0), 1, f)
	}
}

func TestCallsOnWrongDisks(t *testing.T) {
	for _, d := range wrongDisks() {
		for _, r := range []int64{-1, 0, 1, int64(len(d.Regions)), math.MaxInt64} {
			for _, f := range []impl.Frame{frame(9, "a"), frame(-1, "a")} {
				wantAddedTo(t, impl.ErrForm, d, r, f)
				wantBothSlotted(t, impl.ErrForm, d, r, f)
			}
			wantBothCut(t, impl.ErrForm, d, r)
		}
	}
}

// diskFault is a thing that a call may have against it.
type diskFault struct {
	code  int64
	spoil func(d *impl.Disk, r *int64, f *impl.Frame)
}

// diskFaults are in the order in which the document lists the errors of DiskAdd. They are about the second of three regions. DiskSlot has all but the last two.
func diskFaults() []diskFault {
	return []diskFault{
		{impl.ErrForm, func(d *impl.Disk, r *int64, f *impl.Frame) { d.Regions[2].Odd = textOf(3001) }},
		{impl.ErrNone, func(d *impl.Disk, r *int64, f *impl.Frame) { *r = 3 }},
		{impl.ErrDown, func(d *impl.Disk, r *int64, f *impl.Frame) { d.Power = 0 }},
		{impl.ErrSize, func(d *impl.Disk, r *int64, f *impl.Frame) { f.Seq = impl.MaxTime + 1 }},
		{impl.ErrSize, func(d *impl.Disk, r *int64, f *impl.Frame) { f.Text = textOf(2981) }},
		{impl.ErrFull, func(d *impl.Disk, r *int64, f *impl.Frame) { d.Regions[1].Log = logOfFrames(12) }},
		{impl.ErrFull, func(d *impl.Disk, r *int64, f *impl.Frame) {
			d.Regions[1].Log += textOf(2986 - len(d.Regions[1].Log))
		}},
	}
}

// withFaults makes a call with each set of faults at once, and tells the code of the first one. That there is power for a part of the frame only comes last.
func withFaults(faults []diskFault, call func(code int64, d impl.Disk, r int64, f impl.Frame)) {
	for set := range 1 << len(faults) {
		for _, power := range []int64{-1, 1, 20, impl.MaxTime} {
			d, r, f, code := smallDisk(power), int64(1), frame(9, "a text"), int64(impl.OK)
			for i, fault := range faults {
				if set>>i&1 == 0 {
					continue
				}
				fault.spoil(&d, &r, &f)
				if code == impl.OK {
					code = fault.code
				}
			}
			if code == impl.OK && power == 1 {
				code = impl.ErrDown
			}
			call(code, d, r, f)
		}
	}
}

// TestWritesOrderOfErrors has any of the faults at once: the first one counts.
func TestWritesOrderOfErrors(t *testing.T) {
	faults := diskFaults()
	wantSameWithout := func(code int64, d impl.Disk, got impl.Disk) {
		if d.Power == 0 && code == impl.ErrDown && !sameDisk(got, d) {
			t.Fatalf("without power, the disk has changed to %v", lensOf(got))
		}
	}
	withFaults(faults, func(code int64, d impl.Disk, r int64, f impl.Frame) {
		wantSameWithout(code, d, wantAddedTo(t, code, d, r, f))
	})
	withFaults(faults[:5], func(code int64, d impl.Disk, r int64, f impl.Frame) {
		for _, odd := range []bool{false, true} {
			wantSameWithout(code, d, wantSlotted(t, code, d, r, odd, f))
		}
	})
	withFaults(faults[:3], func(code int64, d impl.Disk, r int64, f impl.Frame) {
		if d.Power == 1 {
			// Nothing is written, so that any power is enough.
			return
		}
		wantSameWithout(code, d, wantWiped(t, code, d, r))
		wantSameWithout(code, d, wantTrimmed(t, code, d, r))
	})
}
