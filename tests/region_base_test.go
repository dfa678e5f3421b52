package tests

import (
	"math"
	"math/rand/v2"
	"testing"

	"loop.example/g00658/impl"
)

func wantBase(t *testing.T, want int64, d impl.Disk) {
	t.Helper()
	if got := impl.DiskBase(d); got != want || got != plainDiskBase(d) {
		t.Errorf("DiskBase of %v = %d, want %d", lensOf(d), got, want)
	}
}

func wantSlot(t *testing.T, d impl.Disk, r int64, seq int64, want impl.FrameOut) {
	t.Helper()
	got := impl.SlotOf(d, r, seq)
	if got != want || got != plainSlotOf(d, r, seq) {
		t.Errorf("SlotOf %d in region %d of %v: code %d, at %d, number %d, %q, want code %d, at %d, number %d, %q", seq, r, lensOf(d),
			got.Code, got.At, got.Frame.Seq, short(got.Frame.Text), want.Code, want.At, want.Frame.Seq, short(want.Frame.Text))
	}
}

// slotPair makes a region with frames in its slots. A number of -1 leaves a slot empty.
func slotPair(even int64, odd int64) impl.Region {
	var g impl.Region
	if even >= 0 {
		g.Even = logFrom(frame(even, "even"))
	}
	if odd >= 0 {
		g.Odd = logFrom(frame(odd, "odd"))
	}
	return g
}

// slotDisk makes a disk of the numbers in the slots of its regions.
func slotDisk(pairs ...[2]int64) impl.Disk {
	d := impl.Disk{Power: -1}
	for _, p := range pairs {
		d.Regions = append(d.Regions, slotPair(p[0], p[1]))
	}
	return d
}

func TestDiskBase(t *testing.T) {
	for _, c := range []struct {
		pairs [][2]int64
		want  int64
	}{
		{[][2]int64{{-1, -1}}, 0}, {[][2]int64{{5, -1}}, 5}, {[][2]int64{{-1, 5}}, 5}, {[][2]int64{{5, 7}}, 7}, {[][2]int64{{7, 5}}, 7}, {[][2]int64{{5, 5}}, 5},
		{[][2]int64{{0, -1}}, 0}, {[][2]int64{{0, 0}}, 0}, {[][2]int64{{0, 3}}, 3}, {[][2]int64{{3, 0}}, 3}, {[][2]int64{{impl.MaxTime, 1}}, impl.MaxTime},
		{[][2]int64{{5, 7}, {7, 5}}, 7}, {[][2]int64{{5, 7}, {5, 7}}, 7}, {[][2]int64{{5, 7}, {5, 8}}, 5}, {[][2]int64{{5, 7}, {8, 5}}, 5}, {[][2]int64{{5, 7}, {6, 8}}, 0},
		{[][2]int64{{5, 7}, {5, -1}}, 5}, {[][2]int64{{5, 7}, {-1, 7}}, 7}, {[][2]int64{{5, 7}, {-1, -1}}, 0}, {[][2]int64{{-1, -1}, {5, 7}}, 0}, {[][2]int64{{-1, 7}, {5, 7}}, 7},
		{[][2]int64{{5, 7}, {7, -1}, {5, 7}}, 7}, {[][2]int64{{5, 7}, {7, -1}, {5, -1}}, 0}, {[][2]int64{{5, 7}, {7, 5}, {5, -1}}, 5}, {[][2]int64{{0, 7}, {0, 8}}, 0},
		{[][2]int64{{255, 256}, {256, 255}}, 256}, {[][2]int64{{65536, 65535}, {1, 65535}}, 65535},
	} {
		wantBase(t, c.want, slotDisk(c.pairs...))
	}
	// A log and the power do not matter.
	d := slotDisk([2]int64{5, 7}, [2]int64{7, 5})
	for _, power := range []int64{-1, 0, 1, impl.MaxTime} {
		for _, log := range []string{"x", logFrom(frame(9, "")), logFrom(frame(7, "")), textOf(3000)} {
			wantBase(t, 7, withRegion(withPower(d, power), 1, func(g *impl.Region) { g.Log = log }))
			wantBase(t, 0, withRegion(withPower(d, power), 1, func(g *impl.Region) { *g = impl.Region{Log: log} }))
		}
	}
	for n := int64(0); n < 16; n++ {
		wantBase(t, 0, impl.DiskNew(n))
	}
	wantBase(t, 6, slotDisk([2]int64{6, 9}, [2]int64{6, 8}, [2]int64{9, 6}))
}

// TestSlotsHoldExactly has slots that differ from a frame: they hold nothing, whatever the other slot holds.
func TestSlotsHoldExactly(t *testing.T) {
	for _, f := range []impl.Frame{frame(7, ""), frame(7, "text"), frame(7, textOf(100)), frame(7, textOf(2980))} {
		text := plainFrameBytes(f)
		wrong := []string{"", text[:len(text)-1], text[1:], text[:1], text + "x", text + "\x00", text[:min(len(text), 1500)] + text[:min(len(text), 1500)], "x" + text, "\x00" + text,
			changed(text, 0, 2), changed(text, len(text)-1, 1), changed(text, len(text)/2, 0x80), roughFrame(frame(impl.MaxTime+1, f.Text)), textOf(3000)}
		for r := range 3 {
			for _, odd := range []bool{false, true} {
				put := func(slot string, other string) impl.Disk {
					return withRegion(slotDisk([2]int64{5, 7}, [2]int64{7, 5}, [2]int64{5, 7}), r, func(g *impl.Region) {
						g.Even, g.Odd = slot, other
						if odd {
							g.Even, g.Odd = other, slot
						}
					})
				}
				for _, slot := range wrong {
					if len(slot) > impl.MaxSlot {
						t.Fatalf("a slot has %d bytes", len(slot))
					}
					wantBase(t, 0, put(slot, ""))
					wantBase(t, 5, put(slot, logFrom(frame(5, "other"))))
					wantBase(t, 7, put(slot, logFrom(frame(7, "other"))))
					wantSlot(t, put(slot, ""), int64(r), 7, impl.FrameOut{Code: impl.ErrNone})
					wantSlot(t, put(slot, logFrom(frame(7, "other"))), int64(r), 7, impl.FrameOut{Frame: frame(7, "other")})
				}
				wantBase(t, 7, put(text, ""))
				wantBase(t, 7, put(text, logFrom(frame(5, "other"))))
				wantSlot(t, put(text, "x"), int64(r), 7, impl.FrameOut{Frame: f})
			}
		}
	}
}

// TestDiskBaseAfterSnapshots is promise 33: a new number is written to the slots of all regions, with every power. It is the base exactly if there was power for all of them.
func TestDiskBaseAfterSnapshots(t *testing.T) {
	for _, regions := range []int64{1, 2, 3} {
		for _, odd := range []bool{false, true} {
			before, n := impl.DiskNew(regions), int64(0)
			for r := range regions {
				before = impl.DiskSlot(before, r, !odd, frame(4, "before")).Disk
				n += int64(len(plainFrameBytes(frame(9, textOf(int(20*r))))))
			}
			wantBase(t, 4, before)
			for power := range n + 3 {
				d, code := withPower(before, power), int64(impl.OK)
				for r := range regions {
					out := impl.DiskSlot(d, r, odd, frame(9, textOf(int(20*r))))
					d, code = out.Disk, max(code, out.Code)
				}
				want := int64(4)
				if power >= n {
					want = 9
				}
				if (code == impl.OK) != (power >= n) {
					t.Fatalf("code %d with %d bytes of power for %d", code, power, n)
				}
				wantBase(t, want, d)
				// The previous one can still be read, wherever the power has failed.
				for r := range regions {
					wantSlot(t, d, r, 4, impl.FrameOut{Frame: frame(4, "before")})
				}
				// A second try is written over the first one.
				d.Power = -1
				for r := range regions {
					wantBase(t, want, d)
					d = impl.DiskSlot(d, r, odd, frame(9, "again")).Disk
				}
				wantBase(t, 9, d)
			}
		}
	}
}

// TestDiskBaseOfSomeRegions is promise 33 for any regions that were written, in any slots.
func TestDiskBaseOfSomeRegions(t *testing.T) {
	for set := range 16 {
		for slots := range 16 {
			for _, next := range []int64{2, 3, 4, 5, 6, impl.MaxTime} {
				d := impl.DiskNew(4)
				for r := range int64(4) {
					odd := slots>>r&1 == 1
					d = impl.DiskSlot(d, r, odd, frame(4, "previous")).Disk
					if set>>r&1 == 1 {
						d = impl.DiskSlot(d, r, !odd, frame(next, "next")).Disk
					}
				}
				want := int64(4)
				if set == 15 {
					want = max(want, next)
				}
				wantBase(t, want, d)
			}
		}
	}
	// The first snapshot of a new disk.
	d := impl.DiskNew(13)
	for r := range int64(13) {
		wantBase(t, 0, d)
		d = impl.DiskSlot(d, r, r%2 == 1, frame(8, "")).Disk
	}
	wantBase(t, 8, d)
}

// TestDiskBaseOfOverwrittenSlots writes over the slots of the base: it is lost with the first byte.
func TestDiskBaseOfOverwrittenSlots(t *testing.T) {
	d := slotDisk([2]int64{4, 9}, [2]int64{9, 4})
	n := int64(len(plainFrameBytes(frame(11, "text"))))
	for power := int64(1); power < n; power++ {
		wantBase(t, 4, impl.DiskSlot(withPower(d, power), 0, true, frame(11, "text")).Disk)
		wantBase(t, 9, impl.DiskSlot(withPower(d, power), 0, false, frame(11, "text")).Disk)
	}
	wantBase(t, 9, impl.DiskSlot(withPower(d, 0), 0, true, frame(11, "text")).Disk)
	wantBase(t, 4, impl.DiskSlot(withPower(d, n), 0, true, frame(11, "text")).Disk)
}

func TestSlotOf(t *testing.T) {
	d := slotDisk([2]int64{4, 9}, [2]int64{9, 9}, [2]int64{-1, 0})
	none := impl.FrameOut{Code: impl.ErrNone}
	wantSlot(t, d, 0, 4, impl.FrameOut{Frame: frame(4, "even")})
	wantSlot(t, d, 0, 9, impl.FrameOut{Frame: frame(9, "odd")})
	wantSlot(t, d, 1, 9, impl.FrameOut{Frame: frame(9, "even")})
	wantSlot(t, d, 2, 0, impl.FrameOut{Frame: frame(0, "odd")})
	for _, seq := range append(append(wrongNums(), edgeNums()...), -1, 0, 3, 5, 8, 10, impl.MaxTime, impl.MaxTime+1) {
		if seq != 4 && seq != 9 {
			wantSlot(t, d, 0, seq, none)
			wantSlot(t, impl.DiskNew(1), 0, seq, none)
		}
	}
	for _, r := range append(wrongNums(), -2, -1, 3, 4, 13) {
		wantSlot(t, d, r, 9, none)
		wantSlot(t, d, r, -1, none)
	}
	for _, power := range []int64{-1, 0, 1, impl.MaxTime} {
		wantSlot(t, withPower(d, power), 1, 9, impl.FrameOut{Frame: frame(9, "even")})
	}
	for _, f := range rightFrames() {
		d := withRegion(impl.DiskNew(13), 12, func(g *impl.Region) { g.Odd = plainFrameBytes(f) })
		wantSlot(t, d, 12, f.Seq, impl.FrameOut{Frame: f})
		wantSlot(t, d, 12, f.Seq+1, none)
		wantSlot(t, d, 11, f.Seq, none)
	}
}

func TestSlotsOfWrongDisks(t *testing.T) {
	for _, d := range wrongDisks() {
		wantBase(t, 0, d)
		for _, r := range []int64{-1, 0, 1, int64(len(d.Regions)), math.MaxInt64} {
			for _, seq := range []int64{-1, 0, 4, 6} {
				wantSlot(t, d, r, seq, impl.FrameOut{Code: impl.ErrForm})
			}
		}
	}
	d := slotDisk([2]int64{4, 9}, [2]int64{9, 4})
	for _, power := range wrongPowers() {
		wantBase(t, 0, withPower(d, power))
		wantSlot(t, withPower(d, power), 0, 4, impl.FrameOut{Code: impl.ErrForm})
	}
	wantBase(t, 0, withRegion(d, 1, func(g *impl.Region) { g.Log = textOf(3001) }))
}

func TestSlotsOfMixedDisks(t *testing.T) {
	r := rand.New(rand.NewPCG(33, 1))
	bases, codes := map[int64]int{}, map[int64]int{}
	for range 6000 {
		d := mixedDisk(r)
		if r.IntN(8) == 0 {
			spoilDisk(r, &d)
		}
		base := plainDiskBase(d)
		bases[base]++
		wantBase(t, base, d)
		at, seq := mixedRegion(r, d), 2+r.Int64N(4)
		want := plainSlotOf(d, at, seq)
		codes[want.Code]++
		wantSlot(t, d, at, seq, want)
	}
	if len(bases) != 3 || bases[0] < 1000 || bases[3] < 500 || bases[4] < 500 || codes[impl.OK] < 500 || codes[impl.ErrForm] < 100 || codes[impl.ErrNone] < 500 {
		t.Errorf("the disks are too much alike: %v, %v", bases, codes)
	}
}
