package tests

import (
	"encoding/binary"
	"math/rand/v2"
	"slices"

	"loop.example/g00658/impl"
)

// This file has what the document says of journal regions, written down step by step, and the disks that it is tried on.

func frame(seq int64, text string) impl.Frame {
	return impl.Frame{Seq: seq, Text: text}
}

// framesAt makes frames with some numbers, the texts of which are different.
func framesAt(seqs ...int64) []impl.Frame {
	var frames []impl.Frame
	for i, seq := range seqs {
		frames = append(frames, frame(seq, textOf(i)))
	}
	return frames
}

// roughFrame encodes a frame as if it were valid.
func roughFrame(f impl.Frame) string {
	return lined(plainSeal(string(binary.LittleEndian.AppendUint32(nil, uint32(f.Seq))) + f.Text))
}

// logFrom encodes frames one after the other, valid or not.
func logFrom(frames ...impl.Frame) string {
	log := ""
	for _, f := range frames {
		log += roughFrame(f)
	}
	return log
}

func plainFrameRight(f impl.Frame) bool {
	return f.Seq >= 0 && f.Seq <= 1000000 && len(f.Text) <= 2980
}

func plainFrameBytes(f impl.Frame) string {
	if !plainFrameRight(f) {
		return ""
	}
	return roughFrame(f)
}

func plainFrameRead(log string, at int64) impl.FrameOut {
	switch {
	case len(log) > 8000:
		return impl.FrameOut{Code: 2}
	case at < 0:
		return impl.FrameOut{Code: 1}
	case at > int64(len(log)):
		return impl.FrameOut{Code: 4}
	}
	size := plainNum(log[at:])
	if size.Code != 0 {
		return impl.FrameOut{Code: size.Code}
	}
	rest := log[at+size.At:]
	switch {
	case size.N < 0 || size.N > 8000:
		return impl.FrameOut{Code: 3}
	case size.N > int64(len(rest)) || size.N < 4:
		return impl.FrameOut{Code: 4}
	}
	content := rest[:size.N-4]
	if plainSeal(content) != rest[:size.N] {
		return impl.FrameOut{Code: 5}
	}
	if len(content) < 4 {
		return impl.FrameOut{Code: 3}
	}
	f := frame(int64(binary.LittleEndian.Uint32([]byte(content))), content[4:])
	if !plainFrameRight(f) {
		return impl.FrameOut{Code: 3}
	}
	return impl.FrameOut{Frame: f, At: at + size.At + size.N}
}

func plainLogRead(log string) impl.LogOut {
	if len(log) > 8000 {
		return impl.LogOut{Code: 2}
	}
	var out impl.LogOut
	for {
		next := plainFrameRead(log, out.Size)
		if next.Code != 0 || len(out.Frames) > 0 && next.Frame.Seq <= out.Frames[len(out.Frames)-1].Seq {
			return out
		}
		out.Frames, out.Size = append(out.Frames, next.Frame), next.At
	}
}

// plainMerge goes through the lists once for each number.
func plainMerge(logs [][]impl.Frame) []impl.Frame {
	var seqs []int64
	for _, l := range logs {
		for _, f := range l {
			seqs = append(seqs, f.Seq)
		}
		if len(logs) > 13 || len(l) > 400 {
			return nil
		}
	}
	slices.Sort(seqs)
	var merged []impl.Frame
	for _, seq := range slices.Compact(seqs) {
		for _, l := range logs {
			for _, f := range l {
				if f.Seq == seq {
					merged = append(merged, f)
				}
			}
		}
	}
	return merged
}

func plainDiskRight(d impl.Disk) bool {
	if len(d.Regions) == 0 || len(d.Regions) > 13 || d.Power < -1 || d.Power > 1000000 {
		return false
	}
	for _, g := range d.Regions {
		if max(len(g.Even), len(g.Odd), len(g.Log)) > 3000 {
			return false
		}
	}
	return true
}

func plainDiskNew(n int64) impl.Disk {
	if n < 1 || n > 13 {
		return impl.Disk{}
	}
	return impl.Disk{Regions: make([]impl.Region, n), Power: -1}
}

func cloneDisk(d impl.Disk) impl.Disk {
	d.Regions = slices.Clone(d.Regions)
	return d
}

// sameDisk takes nil and an empty slice as equal.
func sameDisk(a impl.Disk, b impl.Disk) bool {
	return slices.Equal(a.Regions, b.Regions) && a.Power == b.Power
}

// plainDiskCall begins as all calls that change a disk do, and goes on with a copy.
func plainDiskCall(d impl.Disk, r int64, goOn func(d impl.Disk, g *impl.Region) impl.DiskOut) impl.DiskOut {
	switch {
	case !plainDiskRight(d):
		return impl.DiskOut{Code: 1}
	case r < 0 || r >= int64(len(d.Regions)):
		return impl.DiskOut{Code: 6}
	case d.Power == 0:
		return impl.DiskOut{Disk: d, Code: 12}
	}
	d = cloneDisk(d)
	return goOn(d, &d.Regions[r])
}

// plainWrite writes one byte after the other to a place on a disk.
func plainWrite(d impl.Disk, to *string, text string) impl.DiskOut {
	for i := range len(text) {
		if d.Power == 0 {
			return impl.DiskOut{Disk: d, Code: 12}
		}
		*to += text[i : i+1]
		if d.Power != -1 {
			d.Power--
		}
	}
	return impl.DiskOut{Disk: d}
}

func plainDiskAdd(d impl.Disk, r int64, f impl.Frame) impl.DiskOut {
	return plainDiskCall(d, r, func(d impl.Disk, g *impl.Region) impl.DiskOut {
		text := plainFrameBytes(f)
		switch {
		case text == "":
			return impl.DiskOut{Code: 2}
		case len(plainLogRead(g.Log).Frames) >= 12 || len(g.Log+text) > 3000:
			return impl.DiskOut{Code: 9}
		}
		return plainWrite(d, &g.Log, text)
	})
}

func plainDiskSlot(d impl.Disk, r int64, odd bool, f impl.Frame) impl.DiskOut {
	return plainDiskCall(d, r, func(d impl.Disk, g *impl.Region) impl.DiskOut {
		if !plainFrameRight(f) {
			return impl.DiskOut{Code: 2}
		}
		to := map[bool]*string{false: &g.Even, true: &g.Odd}[odd]
		*to = ""
		return plainWrite(d, to, plainFrameBytes(f))
	})
}

func plainDiskWipe(d impl.Disk, r int64) impl.DiskOut {
	return plainDiskCall(d, r, func(d impl.Disk, g *impl.Region) impl.DiskOut {
		g.Log = ""
		return impl.DiskOut{Disk: d}
	})
}

func plainDiskTrim(d impl.Disk, r int64) impl.DiskOut {
	return plainDiskCall(d, r, func(d impl.Disk, g *impl.Region) impl.DiskOut {
		g.Log = logFrom(plainLogRead(g.Log).Frames...)
		return impl.DiskOut{Disk: d}
	})
}

// plainHolds reports whether a slot holds the frame with a number, and which text it has.
func plainHolds(slot string, seq int64) (string, bool) {
	f := plainFrameRead(slot, 0)
	return f.Frame.Text, f.Code == 0 && f.Frame.Seq == seq && plainFrameBytes(f.Frame) == slot
}

func plainSlotOf(d impl.Disk, r int64, seq int64) impl.FrameOut {
	if !plainDiskRight(d) {
		return impl.FrameOut{Code: 1}
	}
	if r >= 0 && r < int64(len(d.Regions)) {
		if text, holds := plainHolds(d.Regions[r].Even, seq); holds {
			return impl.FrameOut{Frame: frame(seq, text)}
		}
		if text, holds := plainHolds(d.Regions[r].Odd, seq); holds {
			return impl.FrameOut{Frame: frame(seq, text)}
		}
	}
	return impl.FrameOut{Code: 6}
}

// plainDiskBase counts in how many regions each number is held.
func plainDiskBase(d impl.Disk) int64 {
	base, count := int64(0), map[int64]int{}
	if !plainDiskRight(d) {
		return 0
	}
	for _, g := range d.Regions {
		even, odd := plainFrameRead(g.Even, 0).Frame.Seq, plainFrameRead(g.Odd, 0).Frame.Seq
		for _, seq := range slices.Compact([]int64{even, odd}) {
			_, inEven := plainHolds(g.Even, seq)
			_, inOdd := plainHolds(g.Odd, seq)
			count[seq] += btoi(inEven || inOdd)
		}
	}
	for seq, n := range count {
		if n == len(d.Regions) {
			base = max(base, seq)
		}
	}
	return base
}

// seqLimits has the limits of a number, numbers on both sides of them, and those at which one more byte is needed.
func seqLimits() []int64 {
	return []int64{-1, 0, 1, 2, 255, 256, 257, 65535, 65536, 65537, impl.MaxTime - 1, impl.MaxTime, impl.MaxTime + 1}
}

// rightFrames lists valid frames: those at the limits, and those at which the length of an encoding grows.
func rightFrames() []impl.Frame {
	var frames []impl.Frame
	for _, seq := range seqLimits() {
		if seq >= 0 && seq <= impl.MaxTime {
			frames = append(frames, frame(seq, ""), frame(seq, "a"), frame(seq, textOf(300)))
		}
	}
	for _, size := range []int{2, 3, 4, 54, 55, 56, 57, 255, 256, 2978, 2979, impl.MaxSlot - 20} {
		frames = append(frames, frame(7, textOf(size)), frame(impl.MaxTime, textOf(size)))
	}
	for b := range 256 {
		frames = append(frames, frame(int64(b), string([]byte{byte(b)})), frame(int64(b)<<8, string([]byte{'x', byte(b)})))
	}
	return frames
}

// wrongFrames lists frames that are wrong in one way each, or in both.
func wrongFrames() []impl.Frame {
	var frames []impl.Frame
	for _, seq := range append(wrongNums(), -1, impl.MaxTime+1, 1<<32+7, -1<<32+7) {
		if seq < 0 || seq > impl.MaxTime {
			frames = append(frames, frame(seq, ""), frame(seq, "a"), frame(seq, textOf(impl.MaxSlot-20)))
		}
	}
	for _, size := range []int{impl.MaxSlot - 19, impl.MaxSlot - 18, impl.MaxSlot, impl.MaxBytes - 8, impl.MaxBytes - 7, impl.MaxBytes, impl.MaxBytes + 1, 20000} {
		frames = append(frames, frame(0, textOf(size)), frame(impl.MaxTime, textOf(size)), frame(-1, textOf(size)))
	}
	return frames
}

// smallDisk has three regions with slots and logs of all kinds.
func smallDisk(power int64) impl.Disk {
	return impl.Disk{Power: power, Regions: []impl.Region{
		{Even: logFrom(frame(4, "even")), Odd: logFrom(frame(6, "odd")), Log: logFrom(framesAt(5, 7)...)},
		{Even: logFrom(frame(6, "")), Odd: logFrom(frame(4, "")) + "x", Log: logFrom(framesAt(8)...) + "zz"},
		{Odd: logFrom(frame(6, textOf(100)))[:50], Log: "y"},
	}}
}

// fullDisk has as many regions as there may be, the slots and logs of which are as long as they may be.
func fullDisk(power int64) impl.Disk {
	d := impl.Disk{Power: power}
	for i := range int64(13) {
		d.Regions = append(d.Regions, impl.Region{Even: textOf(3000), Odd: logFrom(frame(i, textOf(2980))) + "0123456789", Log: logFrom(frame(3, textOf(2980))) + "0123456789"})
	}
	return d
}

// withRegion returns a copy of a disk, one region of which has been changed.
func withRegion(d impl.Disk, r int, change func(g *impl.Region)) impl.Disk {
	d = cloneDisk(d)
	change(&d.Regions[r])
	return d
}

func withPower(d impl.Disk, power int64) impl.Disk {
	d.Power = power
	return d
}

// wrongPowers has numbers beyond the limits.
func wrongPowers() []int64 {
	return slices.DeleteFunc(append(wrongNums(), -2, -3, impl.MaxTime+2), func(n int64) bool {
		return n >= -1 && n <= impl.MaxTime
	})
}

// wrongDisks lists disks that are wrong in one way each.
func wrongDisks() []impl.Disk {
	wrong := []impl.Disk{{}, {Power: -1}, {Power: 5}, {Regions: []impl.Region{}, Power: -1}}
	for _, n := range []int{14, 15, 400, 401} {
		wrong = append(wrong, impl.Disk{Regions: make([]impl.Region, n), Power: -1})
	}
	for _, power := range wrongPowers() {
		wrong = append(wrong, smallDisk(power), withPower(plainDiskNew(1), power))
	}
	for _, size := range []int{3001, 3002, 8000, 8001} {
		for r := range 3 {
			for _, power := range []int64{-1, 0, 5} {
				wrong = append(wrong,
					withRegion(smallDisk(power), r, func(g *impl.Region) { g.Even = textOf(size) }),
					withRegion(smallDisk(power), r, func(g *impl.Region) { g.Odd = textOf(size) }),
					withRegion(smallDisk(power), r, func(g *impl.Region) { g.Log = textOf(size) }))
			}
		}
	}
	return wrong
}

// mixedSize is mostly small, and otherwise at a limit.
func mixedSize(r *rand.Rand) int {
	if r.IntN(6) == 0 {
		return []int{54, 55, 56, 57, 300, 2979, 2980}[r.IntN(7)]
	}
	return r.IntN(40)
}

// mixedText has one of a few texts of a size.
func mixedText(r *rand.Rand, size int) string {
	skip := r.IntN(9)
	return textOf(size + skip)[skip:]
}

// mixedFrame is mostly a valid one with a number below a given one.
func mixedFrame(r *rand.Rand, below int64) impl.Frame {
	f := frame(r.Int64N(below), mixedText(r, mixedSize(r)))
	switch r.IntN(30) {
	case 0:
		f.Seq = seqLimits()[r.IntN(13)]
	case 1:
		f.Seq = wrongNums()[r.IntN(10)]
	case 2:
		f.Text = mixedText(r, 2979+r.IntN(4))
	}
	return f
}

// mixedRegion is mostly the index of a region that is there.
func mixedRegion(r *rand.Rand, d impl.Disk) int64 {
	n := int64(len(d.Regions))
	if r.IntN(9) == 0 {
		return []int64{-1, n, n + 1, 1 << 32}[r.IntN(4)]
	}
	return r.Int64N(n)
}

// mixedLog makes a log of so many frames at most, mostly with numbers that increase, and sometimes with something behind them.
func mixedLog(r *rand.Rand, most int) string {
	seq, log := r.Int64N(3), ""
	for range r.IntN(most + 1) {
		log += logFrom(frame(seq, mixedText(r, r.IntN(60))))
		seq += 1 + r.Int64N(3)
		if r.IntN(20) == 0 {
			seq -= 2 + r.Int64N(2)
		}
	}
	if r.IntN(3) == 0 {
		log += logFrom(mixedFrame(r, 20))
		log = log[:len(log)-r.IntN(5)]
	}
	if log != "" && r.IntN(6) == 0 {
		log = changed(log, r.IntN(len(log)), byte(1+r.IntN(255)))
	}
	return log[:min(len(log), 3000)]
}

// mixedSlot mostly holds a frame, with one of few numbers.
func mixedSlot(r *rand.Rand) string {
	slot := logFrom(frame(3+r.Int64N(2), mixedText(r, mixedSize(r))))
	switch r.IntN(12) {
	case 0:
		return ""
	case 1:
		return slot[:r.IntN(len(slot))]
	case 2:
		return slot + "x"
	case 3:
		return changed(slot, r.IntN(len(slot)), byte(1+r.IntN(255)))
	}
	return slot
}

// mixedDisk makes a valid disk.
func mixedDisk(r *rand.Rand) impl.Disk {
	d := impl.Disk{Power: r.Int64N(70) - 1}
	if r.IntN(3) == 0 {
		d.Power = []int64{-1, 0, 1, 3000, impl.MaxTime}[r.IntN(5)]
	}
	for range 1 + r.IntN(4) {
		d.Regions = append(d.Regions, impl.Region{Even: mixedSlot(r), Odd: mixedSlot(r), Log: mixedLog(r, 14)})
	}
	if r.IntN(10) == 0 {
		d.Regions = append(d.Regions, make([]impl.Region, 13-len(d.Regions))...)
	}
	return d
}

// spoilDisk changes one thing of a disk, which may stay valid.
func spoilDisk(r *rand.Rand, d *impl.Disk) {
	g := &d.Regions[r.IntN(len(d.Regions))]
	long := textOf([]int{2999, 3000, 3001}[r.IntN(3)])
	switch r.IntN(5) {
	case 0:
		d.Power = []int64{-2, -1, 0, impl.MaxTime, impl.MaxTime + 1}[r.IntN(5)]
	case 1:
		d.Regions = append(d.Regions, make([]impl.Region, max(0, 13+r.IntN(2)-len(d.Regions)))...)
	case 2:
		g.Even = long
	case 3:
		g.Odd = long
	case 4:
		g.Log = long
	}
}
