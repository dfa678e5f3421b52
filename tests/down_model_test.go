package tests

import (
	"math/rand/v2"
	"slices"

	"loop.example/g00658/impl"
)

// This file has what the document says of desks, written down step by step, and the desks that it is tried on.

func letter(from impl.Label, to impl.Label, at int64, word int64) impl.Letter {
	return impl.Letter{From: from, To: to, At: at, Word: word}
}

func channel(from impl.Label, to impl.Label) impl.Letter {
	return letter(from, to, 0, 0)
}

// fourChannels has as many channels as there may be. Their labels make other pairs, too, that are not channels.
func fourChannels() []impl.Letter {
	low, side, high := label(0, 0), label(1, 1), label(2, 0)
	return []impl.Letter{channel(high, low), channel(high, side), channel(side, low), channel(label(3, 7), high)}
}

// sentOver is a letter over one of the four channels.
func sentOver(n int, at int64, word int64) impl.Letter {
	c := fourChannels()[n]
	return letter(c.From, c.To, at, word)
}

// deskOf has the four channels, and letters that have been released up to now; those of now are in the box.
func deskOf(now int64, audit ...impl.Letter) impl.Desk {
	d := impl.Desk{Pairs: fourChannels(), Audit: audit, Now: now}
	for _, x := range audit {
		if x.At == now {
			d.Box = append(d.Box, x)
			d.Used++
		}
	}
	return d
}

// sentAt makes letters with the given times over changing channels, with different words.
func sentAt(times ...int64) []impl.Letter {
	var l []impl.Letter
	for i, at := range times {
		l = append(l, sentOver(i%4, at, 100+int64(i)))
	}
	return l
}

// everyStep makes n letters, one for each time from 0 on.
func everyStep(n int) []impl.Letter {
	var times []int64
	for at := range n {
		times = append(times, int64(at))
	}
	return sentAt(times...)
}

// fullBox has as many letters in its box as there may be, and some more in its audit log. No call yields it, but it is valid.
func fullBox() impl.Desk {
	d := deskOf(9, everyStep(8)...)
	d.Box = slices.Clone(d.Audit[1:7])
	return d
}

func fullAudit() impl.Desk {
	return deskOf(19, everyStep(20)...)
}

func cloneDesk(d impl.Desk) impl.Desk {
	d.Pairs, d.Box, d.Audit = slices.Clone(d.Pairs), slices.Clone(d.Box), slices.Clone(d.Audit)
	return d
}

// sameDesk takes nil and an empty slice as equal.
func sameDesk(a impl.Desk, b impl.Desk) bool {
	return a.Used == b.Used && a.Now == b.Now && slices.Equal(a.Pairs, b.Pairs) && slices.Equal(a.Box, b.Box) && slices.Equal(a.Audit, b.Audit)
}

func plainLabelRight(a impl.Label) bool {
	return a.Level >= 0 && a.Level <= 3 && a.Set >= 0 && a.Set <= 7
}

func plainPairsRight(pairs []impl.Letter) bool {
	different := map[impl.Letter]bool{}
	for _, p := range pairs {
		if !plainLabelRight(p.From) || !plainLabelRight(p.To) || p.At != 0 || p.Word != 0 {
			return false
		}
		different[p] = true
	}
	return len(pairs) <= 4 && len(different) == len(pairs)
}

func plainIsPair(d impl.Desk, from impl.Label, to impl.Label) bool {
	for _, p := range d.Pairs {
		if p.From == from && p.To == to {
			return true
		}
	}
	return false
}

func plainLettersRight(d impl.Desk, l []impl.Letter, most int) bool {
	for i, x := range l {
		if !plainIsPair(d, x.From, x.To) || x.At < 0 || x.At > d.Now || x.Word < 0 || x.Word > 1000000 {
			return false
		}
		if i > 0 && l[i-1].At > x.At {
			return false
		}
	}
	return len(l) <= most
}

func plainBoxRight(d impl.Desk) bool {
	if d.Now < 0 || d.Now > 999900 || !plainPairsRight(d.Pairs) || !plainLettersRight(d, d.Box, 6) || !plainLettersRight(d, d.Audit, 20) {
		return false
	}
	recorded := map[impl.Letter]bool{}
	used := int64(0)
	for _, x := range d.Audit {
		recorded[x] = true
		if x.At == d.Now {
			used++
		}
	}
	for _, x := range d.Box {
		if !recorded[x] {
			return false
		}
	}
	return d.Used == used && used <= 2
}

func plainLetDown(d impl.Desk, from impl.Label, to impl.Label, word int64) impl.DeskStep {
	if !plainBoxRight(d) || word < 0 || word > 1000000 {
		return impl.DeskStep{Code: impl.ErrForm}
	}
	if !plainIsPair(d, from, to) {
		return impl.DeskStep{Code: impl.ErrLabel}
	}
	if d.Used == 2 {
		return impl.DeskStep{Code: impl.ErrRange}
	}
	if len(d.Box) == 6 || len(d.Audit) == 20 {
		return impl.DeskStep{Code: impl.ErrFull}
	}
	d = cloneDesk(d)
	d.Box = append(d.Box, letter(from, to, d.Now, word))
	d.Audit = append(d.Audit, letter(from, to, d.Now, word))
	d.Used++
	return impl.DeskStep{Desk: d}
}

func plainNextTime(d impl.Desk) impl.DeskStep {
	if !plainBoxRight(d) {
		return impl.DeskStep{Code: impl.ErrForm}
	}
	if d.Now == 999900 {
		return impl.DeskStep{Code: impl.ErrFull}
	}
	d = cloneDesk(d)
	d.Box, d.Used, d.Now = nil, 0, d.Now+1
	return impl.DeskStep{Desk: d}
}

func plainReads(d impl.Desk, a impl.Label) []int64 {
	var words []int64
	for _, x := range d.Box {
		if plainBoxRight(d) && plainLabelRight(a) && plainBelow(x.To, a) {
			words = append(words, x.Word)
		}
	}
	return words
}

// mixedChannels makes up to four different channels between any labels.
func mixedChannels(r *rand.Rand) []impl.Letter {
	all := allLabels()
	var pairs []impl.Letter
	for range r.IntN(5) {
		if p := channel(all[r.IntN(32)], all[r.IntN(32)]); !slices.Contains(pairs, p) {
			pairs = append(pairs, p)
		}
	}
	return pairs
}

// mixedTimes makes times in order, up to eighteen before now and up to two of now.
func mixedTimes(r *rand.Rand, now int64) []int64 {
	var times []int64
	if now > 0 {
		for range r.IntN(19) {
			times = append(times, max(0, now-1-int64(r.IntN(9))))
		}
	}
	slices.Sort(times)
	return append(times, []int64{now, now}[:r.IntN(3)]...)
}

// mixedDesk makes a valid desk. Its box may have old letters, and the same one more than once.
func mixedDesk(r *rand.Rand) impl.Desk {
	d := impl.Desk{Pairs: mixedChannels(r), Now: int64(r.IntN(12))}
	if r.IntN(5) == 0 {
		d.Now = impl.MaxTime - 100 - int64(r.IntN(2))
	}
	if len(d.Pairs) == 0 {
		return d
	}
	often := r.IntN(4)
	for _, at := range mixedTimes(r, d.Now) {
		p := d.Pairs[r.IntN(len(d.Pairs))]
		x := letter(p.From, p.To, at, []int64{0, 7, 8, 1000000}[r.IntN(4)])
		d.Audit = append(d.Audit, x)
		if at == d.Now {
			d.Used++
		}
		for len(d.Box) < 6 && r.IntN(4) < often {
			d.Box = append(d.Box, x)
		}
	}
	return d
}

// spoilDesk changes one thing of a desk, after which it may be valid or not.
func spoilDesk(r *rand.Rand, d *impl.Desk) {
	switch r.IntN(8) {
	case 0:
		d.Now += int64(r.IntN(3)) - 1
	case 1:
		d.Used += int64(r.IntN(3)) - 1
	case 2:
		d.Pairs = mixedChannels(r)
	case 3:
		d.Audit = append(d.Audit, letter(label(0, 0), label(0, 0), d.Now, 7))
	case 4:
		spoilLetter(r, d.Pairs)
	case 5:
		spoilLetter(r, d.Box)
	default:
		spoilLetter(r, d.Audit)
	}
}

// spoilLetter changes one field of a letter, or makes it the same as another one.
func spoilLetter(r *rand.Rand, l []impl.Letter) {
	if len(l) == 0 {
		return
	}
	x := &l[r.IntN(len(l))]
	switch r.IntN(5) {
	case 0:
		x.From.Level += int64(r.IntN(3)) - 1
	case 1:
		x.To.Set += int64(r.IntN(3)) - 1
	case 2:
		x.At += int64(r.IntN(3)) - 1
	case 3:
		x.Word += int64(r.IntN(3)) - 1
	case 4:
		*x = l[r.IntN(len(l))]
	}
}
