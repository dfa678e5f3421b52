package tests

import (
	"math/rand/v2"
	"testing"

	"loop.example/g00658/impl"
)

// diskWrite is a write to a region: of a slot, or to the log.
type diskWrite struct {
	region int
	slot   bool
	odd    bool
	frame  impl.Frame
}

func (w diskWrite) on(d impl.Disk) impl.DiskOut {
	if w.slot {
		return impl.DiskSlot(d, int64(w.region), w.odd, w.frame)
	}
	return impl.DiskAdd(d, int64(w.region), w.frame)
}

// put lays the first so many bytes of the write onto a disk.
func (w diskWrite) put(d impl.Disk, size int) impl.Disk {
	return withRegion(d, w.region, func(g *impl.Region) {
		text := plainFrameBytes(w.frame)[:size]
		switch {
		case w.slot && w.odd:
			g.Odd = text
		case w.slot:
			g.Even = text
		default:
			g.Log += text
		}
	})
}

// writesTo lists a write of each kind to each region of a disk.
func writesTo(d impl.Disk, f impl.Frame) []diskWrite {
	var writes []diskWrite
	for r := range d.Regions {
		writes = append(writes, diskWrite{r, false, false, f}, diskWrite{r, true, false, f}, diskWrite{r, true, true, f})
	}
	return writes
}

// wantWritten makes a write with any power, and compares the disk with what was on it: nothing but the first bytes is new.
func wantWritten(t *testing.T, d impl.Disk, w diskWrite) {
	t.Helper()
	n := len(plainFrameBytes(w.frame))
	for power := range n + 4 {
		before := withPower(d, int64(power))
		want := impl.DiskOut{Disk: withPower(w.put(d, min(power, n)), int64(max(power-n, 0)))}
		switch {
		case power == 0:
			want = impl.DiskOut{Disk: before, Code: impl.ErrDown}
		case power < n:
			want.Code = impl.ErrDown
		}
		wantDiskOut(t, "a write", w.on(before), want)
	}
	wantDiskOut(t, "a write without a limit", w.on(withPower(d, -1)), impl.DiskOut{Disk: withPower(w.put(d, n), -1)})
}

// TestEveryPower is promise 32, for each kind of write to each region, and for every power from 0 to more than is needed.
func TestEveryPower(t *testing.T) {
	for _, d := range []impl.Disk{impl.DiskNew(1), impl.DiskNew(13), smallDisk(0), withLog(logOfFrames(5), 0)} {
		for _, f := range []impl.Frame{frame(20, ""), frame(20, "a"), frame(300, textOf(60))} {
			for _, w := range writesTo(d, f) {
				if w.slot || len(impl.LogRead(d.Regions[w.region].Log).Frames) < 12 {
					wantWritten(t, d, w)
				}
			}
		}
	}
	for _, w := range writesTo(impl.DiskNew(1), frame(20, textOf(2980))) {
		wantWritten(t, impl.DiskNew(1), w)
	}
}

// TestEarlierFramesAreIntact is promise 32, as far as it is read: after a failure of power the frames of the log and the other slot are there as before.
func TestEarlierFramesAreIntact(t *testing.T) {
	frames := framesAt(1, 2, 5)
	d := impl.Disk{Regions: []impl.Region{{Even: logFrom(frame(5, "even")), Odd: logFrom(frame(4, "odd")), Log: logFrom(frames...)}}}
	f := frame(6, "new")
	n := int64(len(plainFrameBytes(f)))
	for power := range n {
		added := impl.DiskAdd(withPower(d, power), 0, f).Disk
		wantFrames(t, added.Regions[0].Log, frames, 3)
		wantFrames(t, impl.DiskTrim(withPower(added, -1), 0).Disk.Regions[0].Log, frames, 3)
		slotted := impl.DiskSlot(withPower(d, power), 0, true, f).Disk
		wantFrames(t, slotted.Regions[0].Log, frames, 3)
		wantSlot(t, slotted, 0, 5, impl.FrameOut{Frame: frame(5, "even")})
		wantSlot(t, slotted, 0, 6, impl.FrameOut{Code: impl.ErrNone})
	}
	wantFrames(t, impl.DiskAdd(withPower(d, n), 0, f).Disk.Regions[0].Log, append(frames, f), 4)
	wantSlot(t, impl.DiskSlot(withPower(d, n), 0, true, f).Disk, 0, 6, impl.FrameOut{Frame: f})
}

// mixedWrites makes some writes to a disk, each of which is accepted if there is no limit of power.
func mixedWrites(r *rand.Rand, d impl.Disk, n int) []diskWrite {
	var writes []diskWrite
	for range n {
		w := diskWrite{r.IntN(len(d.Regions)), r.IntN(2) == 0, r.IntN(2) == 0, frame(r.Int64N(40), mixedText(r, r.IntN(30)))}
		if out := w.on(withPower(d, -1)); out.Code == impl.OK {
			d, writes = out.Disk, append(writes, w)
		}
	}
	return writes
}

// TestPowerOverManyWrites is promise 32 over whole executions: the bytes that are written are the first ones of all that are to be written, as many as there is power.
func TestPowerOverManyWrites(t *testing.T) {
	r := rand.New(rand.NewPCG(32, 5))
	for range 40 {
		first := mixedDisk(r)
		writes := mixedWrites(r, first, 6)
		total := 0
		for _, w := range writes {
			total += len(plainFrameBytes(w.frame))
		}
		for power := range total + 3 {
			got, want, left, down := withPower(first, int64(power)), first, power, false
			for _, w := range writes {
				out := w.on(got)
				got = out.Disk
				size := min(left, len(plainFrameBytes(w.frame)))
				if left > 0 {
					want = w.put(want, size)
				}
				down = down || left < len(plainFrameBytes(w.frame))
				left -= size
				if down != (out.Code == impl.ErrDown) || !down && out.Code != impl.OK {
					t.Fatalf("code %d with %d bytes of power", out.Code, power)
				}
			}
			if !sameDisk(got, withPower(want, int64(left))) {
				t.Fatalf("with %d bytes of power the disk is %v, want %v", power, lensOf(got), lensOf(withPower(want, int64(left))))
			}
		}
	}
}

// TestDisksOfAnyCallsAreValid makes any calls in a row, and gives new power when there is none. The disk is that of the document after each of them.
func TestDisksOfAnyCallsAreValid(t *testing.T) {
	r := rand.New(rand.NewPCG(32, 6))
	count := map[int64]int{}
	for range 150 {
		d := withPower(impl.DiskNew(1+r.Int64N(4)), r.Int64N(300)-1)
		for seq := range int64(80) {
			if d.Power == 0 && r.IntN(3) > 0 {
				d.Power = r.Int64N(300) - 1
			}
			at, f := mixedRegion(r, d), mixedFrame(r, 2+seq)
			var got, want impl.DiskOut
			switch odd := r.IntN(2) == 0; r.IntN(12) {
			case 0:
				got, want = impl.DiskWipe(d, at), plainDiskWipe(d, at)
			case 1, 2:
				got, want = impl.DiskTrim(d, at), plainDiskTrim(d, at)
			case 3, 4:
				got, want = impl.DiskSlot(d, at, odd, f), plainDiskSlot(d, at, odd, f)
			default:
				f.Seq += seq
				got, want = impl.DiskAdd(d, at, f), plainDiskAdd(d, at, f)
			}
			wantDiskOut(t, "a call", got, want)
			count[got.Code]++
			if got.Code == impl.OK || got.Code == impl.ErrDown {
				d = got.Disk
			}
		}
	}
	if len(count) != 5 || count[impl.OK] < 1000 || count[impl.ErrDown] < 1000 || count[impl.ErrFull] < 100 {
		t.Errorf("the calls are too much alike: %v", count)
	}
}
