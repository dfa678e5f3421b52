package tests

import (
	"math/rand/v2"
	"reflect"
	"slices"
	"strings"
	"testing"
	"unsafe"

	"loop.example/g00658/impl"
)

// roomyDisk is a copy of a disk, the list of which has room behind its elements, and the texts of which are at places of their own.
func roomyDisk(d impl.Disk) impl.Disk {
	copied := impl.Disk{Regions: make([]impl.Region, 0, len(d.Regions)+3), Power: d.Power}
	for _, g := range d.Regions {
		copied.Regions = append(copied.Regions, impl.Region{Even: strings.Clone(g.Even), Odd: strings.Clone(g.Odd), Log: strings.Clone(g.Log)})
	}
	return copied
}

func diskTexts(d impl.Disk) []string {
	var texts []string
	for _, g := range d.Regions {
		texts = append(texts, g.Even, g.Odd, g.Log)
	}
	return texts
}

func frameTexts(frames ...impl.Frame) []string {
	var texts []string
	for _, f := range frames {
		texts = append(texts, f.Text)
	}
	return texts
}

// wantTextsApart looks at the places of the texts of results: none of them overlaps another one, or one of the arguments. The library keeps texts of one byte at places that all of them share.
func wantTextsApart(t *testing.T, what string, given []string, results ...[]string) {
	t.Helper()
	type place struct{ from, to uintptr }
	placeOf := func(text string) place {
		from := uintptr(unsafe.Pointer(unsafe.StringData(text)))
		return place{from, from + uintptr(len(text))}
	}
	var taken []place
	for _, text := range given {
		taken = append(taken, placeOf(text))
	}
	for _, text := range slices.Concat(results...) {
		at := placeOf(text)
		if len(text) <= 1 {
			continue
		}
		for _, other := range taken {
			if at.from < other.to && other.from < at.to {
				t.Errorf("%s: two texts share memory", what)
				return
			}
		}
		taken = append(taken, at)
	}
}

// markDisk writes into each place of a disk's list, also behind its end.
func markDisk(d impl.Disk) {
	whole := d.Regions[:cap(d.Regions)]
	for i := range whole {
		whole[i] = impl.Region{Even: "marked", Odd: "marked", Log: "marked"}
	}
}

// wantDiskApart makes a call twice with the same arguments and writes into the first result: neither the second one nor an argument may change.
func wantDiskApart(t *testing.T, what string, d impl.Disk, f impl.Frame, call func(d impl.Disk, f impl.Frame) impl.Disk) {
	t.Helper()
	disk, given := roomyDisk(d), frame(f.Seq, strings.Clone(f.Text))
	wantKept := func(why string) {
		t.Helper()
		behind := disk.Regions[len(disk.Regions):cap(disk.Regions)]
		if !sameDisk(disk, d) || given != f || !reflect.DeepEqual(behind, make([]impl.Region, len(behind))) {
			t.Errorf("%s: %s", what, why)
		}
	}
	first, second := call(disk, given), call(disk, given)
	kept := cloneDisk(second)
	wantKept("an argument is changed")
	wantTextsApart(t, what, append(diskTexts(disk), given.Text), diskTexts(first), diskTexts(second))
	markDisk(first)
	if !sameDisk(second, kept) {
		t.Errorf("%s: two results share memory", what)
	}
	wantKept("the result shares memory with an argument")
	if !sameDisk(kept, call(cloneDisk(d), f)) {
		t.Errorf("%s: another result with room behind the list", what)
	}
}

// wantAllDisksApart makes each call for one region, done or refused.
func wantAllDisksApart(t *testing.T, d impl.Disk, r int64, f impl.Frame) {
	t.Helper()
	wantDiskApart(t, "DiskNew", d, f, func(d impl.Disk, f impl.Frame) impl.Disk { return impl.DiskNew(r) })
	wantDiskApart(t, "DiskAdd", d, f, func(d impl.Disk, f impl.Frame) impl.Disk { return impl.DiskAdd(d, r, f).Disk })
	wantDiskApart(t, "DiskSlot, Even", d, f, func(d impl.Disk, f impl.Frame) impl.Disk { return impl.DiskSlot(d, r, false, f).Disk })
	wantDiskApart(t, "DiskSlot, Odd", d, f, func(d impl.Disk, f impl.Frame) impl.Disk { return impl.DiskSlot(d, r, true, f).Disk })
	wantDiskApart(t, "DiskWipe", d, f, func(d impl.Disk, f impl.Frame) impl.Disk { return impl.DiskWipe(d, r).Disk })
	wantDiskApart(t, "DiskTrim", d, f, func(d impl.Disk, f impl.Frame) impl.Disk { return impl.DiskTrim(d, r).Disk })
	wantDiskApart(t, "DiskRight, DiskBase and SlotOf", d, f, func(d impl.Disk, f impl.Frame) impl.Disk {
		right, base, slot := impl.DiskRight(d), impl.DiskBase(d), impl.SlotOf(d, r, 4)
		if right != plainDiskRight(d) || base != plainDiskBase(d) || slot != plainSlotOf(d, r, 4) {
			t.Errorf("another result for %v with room behind its list", lensOf(d))
		}
		wantTextsApart(t, "SlotOf", diskTexts(d), frameTexts(slot.Frame, impl.SlotOf(d, r, 4).Frame))
		return impl.Disk{}
	})
}

func TestDisksShareNoMemory(t *testing.T) {
	r := rand.New(rand.NewPCG(32, 7))
	for range 600 {
		d := mixedDisk(r)
		if r.IntN(4) == 0 {
			spoilDisk(r, &d)
		}
		wantAllDisksApart(t, d, mixedRegion(r, d), mixedFrame(r, 20))
	}
	for _, power := range []int64{-1, 0, 1, 5, 3000, impl.MaxTime} {
		for _, d := range []impl.Disk{withPower(impl.DiskNew(1), power), smallDisk(power), fullDisk(power), withLog(logOfFrames(12), power), withLog(logOfFrames(3)+"zzz", power)} {
			for r := range d.Regions {
				wantAllDisksApart(t, d, int64(r), frame(70, textOf(30)))
			}
			wantAllDisksApart(t, d, -1, frame(70, textOf(30)))
		}
	}
}

// TestWrongDisksAreKept looks at arguments that are refused.
func TestWrongDisksAreKept(t *testing.T) {
	for _, d := range wrongDisks() {
		wantAllDisksApart(t, d, 0, frame(9, "text"))
	}
	for _, f := range wrongFrames() {
		wantAllDisksApart(t, smallDisk(5), 0, f)
	}
}

// TestDiskTextsAreTheirOwn has slots and logs that share their memory: those of the results do not.
func TestDiskTextsAreTheirOwn(t *testing.T) {
	text := strings.Clone(logFrom(frame(4, textOf(50))))
	g := impl.Region{Even: text, Odd: text, Log: text}
	d := impl.Disk{Regions: []impl.Region{g, g, g}, Power: -1}
	f := frame(9, text[3:30])
	for _, out := range []impl.DiskOut{impl.DiskAdd(d, 1, f), impl.DiskSlot(d, 1, true, f), impl.DiskWipe(d, 1), impl.DiskTrim(d, 1), impl.DiskWipe(withPower(d, 0), 1)} {
		if len(out.Disk.Regions) != 3 {
			t.Errorf("code %d, %v", out.Code, lensOf(out.Disk))
		}
		wantTextsApart(t, "a disk of one text", []string{text}, diskTexts(out.Disk))
	}
}

func TestFramesShareNoMemory(t *testing.T) {
	r := rand.New(rand.NewPCG(30, 7))
	for range 300 {
		log := strings.Clone(mixedLog(r, 14))
		first, second := impl.LogRead(log), impl.LogRead(log)
		wantTextsApart(t, "LogRead", []string{log}, frameTexts(first.Frames...), frameTexts(second.Frames...))
		wantTextsApart(t, "FrameRead", []string{log}, frameTexts(impl.FrameRead(log, 0).Frame, impl.FrameRead(log, 0).Frame))
		clear(first.Frames[:cap(first.Frames)])
		if !sameLogOut(second, plainLogRead(log)) {
			t.Fatal("two logs share memory")
		}
	}
}

// TestMergedFramesShareNoMemory merges lists with room behind their ends, out of order too.
func TestMergedFramesShareNoMemory(t *testing.T) {
	r := rand.New(rand.NewPCG(31, 4))
	for range 500 {
		var logs [][]impl.Frame
		for range r.IntN(15) {
			l := make([]impl.Frame, 0, 9)
			for range r.IntN(6) {
				l = append(l, frame(r.Int64N(5), strings.Clone(mixedText(r, 5))))
			}
			logs = append(logs, l)
		}
		kept := make([][]impl.Frame, len(logs))
		var texts []string
		for i, l := range logs {
			kept[i] = append(make([]impl.Frame, 0, 9), l...)
			texts = append(texts, frameTexts(l...)...)
		}
		first, second := impl.Merge(logs), impl.Merge(logs)
		wantTextsApart(t, "Merge", texts, frameTexts(first...), frameTexts(second...))
		for i := range first[:cap(first)] {
			first[:cap(first)][i] = frame(99, "marked")
		}
		wantMerged(t, second, kept...)
		for i := range logs {
			if !reflect.DeepEqual(logs[i][:9], kept[i][:9]) {
				t.Fatal("the argument has changed")
			}
		}
	}
	// A list alone, and one list twice.
	l := []impl.Frame{frame(2, "two"), frame(1, "one")}
	wantMerged(t, []impl.Frame{frame(1, "one"), frame(2, "two")}, l)
	merged := impl.Merge([][]impl.Frame{l, l})
	wantTextsApart(t, "Merge of one list twice", frameTexts(l...), frameTexts(merged...))
	clear(merged)
	if l[0] != frame(2, "two") || l[1] != frame(1, "one") {
		t.Error("the argument has changed")
	}
}

// TestRegionsKeepNoState makes other calls, and refused ones, between two that are the same.
func TestRegionsKeepNoState(t *testing.T) {
	for range 5 {
		wantAddedTo(t, impl.OK, smallDisk(100), 0, frame(9, "a"))
		impl.DiskAdd(fullDisk(-1), 3, frame(9, "a"))
		wantAddedTo(t, impl.ErrDown, smallDisk(4), 0, frame(9, "a"))
		impl.DiskSlot(smallDisk(3), 1, true, frame(1, "b"))
		wantSlotted(t, impl.OK, smallDisk(-1), 2, true, frame(9, "a"))
		impl.DiskAdd(smallDisk(-1), 9, frame(9, "a"))
		wantBothCut(t, impl.OK, smallDisk(7), 1)
		impl.DiskWipe(smallDisk(0), 0)
		wantFrames(t, smallDisk(0).Regions[0].Log, framesAt(5, 7), 2)
		wantBase(t, 0, smallDisk(0))
		wantSlot(t, smallDisk(0), 0, 6, impl.FrameOut{Frame: frame(6, "odd")})
		wantMerged(t, framesAt(1, 2), framesAt(1, 2))
	}
}
