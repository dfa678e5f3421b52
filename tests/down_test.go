package tests

import (
	"math"
	"math/rand/v2"
	"slices"
	"testing"

	"loop.example/g00658/impl"
)

func wantDesk(t *testing.T, want bool, d impl.Desk) {
	t.Helper()
	if got := impl.BoxRight(d); got != want {
		t.Errorf("BoxRight(pairs %+v, %d in the box, audit log %+v, used %d, now %d) = %v", d.Pairs[:min(len(d.Pairs), 5)], len(d.Box), d.Audit[:min(len(d.Audit), 5)], d.Used, d.Now, got)
	}
}

// with returns a copy of a desk that has been changed.
func with(d impl.Desk, change func(d *impl.Desk)) impl.Desk {
	d = cloneDesk(d)
	change(&d)
	return d
}

// wrongTimes lists numbers that are no current time.
func wrongTimes() []int64 {
	return []int64{math.MinInt64, math.MinInt64 + 1, -(1 << 32), -1, impl.MaxTime - 99, impl.MaxTime, impl.MaxTime + 1, 1 << 32, math.MaxInt64 - 1, math.MaxInt64}
}

func wrongWords() []int64 {
	return []int64{math.MinInt64, math.MinInt64 + 1, -(1 << 32), -1000000, -1, 1000001, 1000002, 1 << 32, 1<<32 + 7, 1<<56 + 7, math.MaxInt64}
}

// wrongPairs lists channels that make a desk invalid: too many, the same one twice, or one that is wrong itself.
func wrongPairs() [][]impl.Letter {
	four, fifth := fourChannels(), channel(label(1, 7), label(1, 3))
	wrong := [][]impl.Letter{append(fourChannels(), fifth), append([]impl.Letter{fifth}, four...), slices.Repeat(four, 100), slices.Repeat(four, 101)}
	for i := range four {
		for j := range four[:i] {
			twice := fourChannels()
			twice[i] = twice[j]
			wrong = append(wrong, twice, []impl.Letter{four[i], four[i]}, append(fourChannels(), four[j]))
		}
	}
	for i := range four {
		for _, n := range append(wrongNums(), -1, 1) {
			late, spoken := fourChannels(), fourChannels()
			late[i].At, spoken[i].Word = n, n
			wrong = append(wrong, late, spoken, late[i:i+1], spoken[i:i+1])
		}
		for _, a := range wrongLabels() {
			from, to := fourChannels(), fourChannels()
			from[i].From, to[i].To = a, a
			wrong = append(wrong, from, to, from[i:i+1], to[i:i+1])
		}
	}
	return wrong
}

// notSent lists letters that a desk with the four channels cannot have released at time 5 or before.
func notSent() []impl.Letter {
	low, side, high, top := label(0, 0), label(1, 1), label(2, 0), label(3, 7)
	wrong := []impl.Letter{{At: 3, Word: 7}}
	// The first ones are channels backwards, the next ones from the sender of one channel to the receiver of another.
	for _, p := range [][2]impl.Label{{low, high}, {side, high}, {low, side}, {high, top}, {top, low}, {top, side}, {side, side}, {high, high}, {label(2, 1), low}, {high, label(0, 4)}} {
		wrong = append(wrong, letter(p[0], p[1], 3, 7), letter(p[0], p[1], 5, 7))
	}
	for _, a := range wrongLabels() {
		wrong = append(wrong, letter(a, low, 3, 7), letter(high, a, 3, 7), letter(a, a, 3, 7))
	}
	for n := range 4 {
		for _, at := range append(wrongTimes(), 6, 7) {
			wrong = append(wrong, sentOver(n, at, 7))
		}
		for _, word := range wrongWords() {
			wrong = append(wrong, sentOver(n, 3, word), sentOver(n, 5, word))
		}
	}
	return wrong
}

// wrongLetters lists desks at time 5 with a letter that cannot have been released, alone or among others, in the audit log, in the box, or in both.
func wrongLetters() []impl.Desk {
	var wrong []impl.Desk
	for _, x := range notSent() {
		right := deskOf(5, sentAt(0, 2, 5)...)
		for at := range 4 {
			d := deskOf(5, slices.Insert(sentAt(0, 2, 5), at, x)...)
			d.Box = nil
			wrong = append(wrong, d)
		}
		wrong = append(wrong, deskOf(5, x), with(deskOf(5, x), func(d *impl.Desk) { d.Box = slices.Clone(d.Audit) }))
		wrong = append(wrong, with(right, func(d *impl.Desk) { d.Box = append(d.Box, x) }), with(right, func(d *impl.Desk) { d.Box = []impl.Letter{x} }))
		wrong = append(wrong, with(deskOf(5), func(d *impl.Desk) { d.Box = []impl.Letter{x} }))
	}
	return wrong
}

// notAudited lists desks whose box has a letter that differs from all those of the audit log, but would be right there.
func notAudited() []impl.Desk {
	right := deskOf(5, sentOver(0, 2, 7), sentOver(2, 5, 8))
	var wrong []impl.Desk
	for _, x := range []impl.Letter{
		sentOver(1, 2, 7), sentOver(2, 2, 7), sentOver(3, 2, 7), sentOver(0, 1, 7), sentOver(0, 3, 7), sentOver(0, 2, 6), sentOver(0, 2, 8),
		sentOver(0, 5, 8), sentOver(1, 5, 8), sentOver(2, 4, 8), sentOver(2, 5, 7), sentOver(2, 5, 9), sentOver(2, 0, 0),
	} {
		wrong = append(wrong, with(right, func(d *impl.Desk) { d.Box = []impl.Letter{x} }))
		wrong = append(wrong, with(right, func(d *impl.Desk) { d.Box = []impl.Letter{d.Audit[0], x} }))
		wrong = append(wrong, with(right, func(d *impl.Desk) { d.Box = []impl.Letter{x, d.Audit[1]} }))
		wrong = append(wrong, with(right, func(d *impl.Desk) { d.Box, d.Audit, d.Used = []impl.Letter{x}, nil, 0 }))
	}
	return wrong
}

// wrongCounts lists desks whose Used is not what the audit log says, or is more than the rate.
func wrongCounts() []impl.Desk {
	var wrong []impl.Desk
	for n := range 8 {
		times := slices.Concat([]int64{0, 3, 3, 3, 4}, slices.Repeat([]int64{5}, n))
		right := deskOf(5, sentAt(times...)...)
		right.Box = nil
		for _, used := range append(wrongNums(), -2, -1, 0, 1, 2, 3, 4, 5, 6, 7, 8, 13) {
			if used != int64(n) || n > 2 {
				wrong = append(wrong, with(right, func(d *impl.Desk) { d.Used = used }))
			}
		}
	}
	return wrong
}

// wrongDesks lists desks that are wrong in one way each.
func wrongDesks() []impl.Desk {
	wrong := slices.Concat(wrongLetters(), notAudited(), wrongCounts())
	for _, pairs := range wrongPairs() {
		wrong = append(wrong, impl.Desk{Pairs: pairs}, impl.Desk{Pairs: pairs, Now: 9})
	}
	for _, now := range wrongTimes() {
		wrong = append(wrong, impl.Desk{Now: now}, impl.Desk{Pairs: fourChannels(), Now: now}, deskOf(now, sentAt(0, now)...))
		wrong = append(wrong, with(deskOf(now, sentAt(0, 3)...), func(d *impl.Desk) { d.Box, d.Used = nil, 0 }))
	}
	for _, times := range [][]int64{{1, 0}, {9, 8}, {3, 2, 9}, {0, 3, 2}, {0, 5, 3, 5}, {5, 9, 5}, {4, 4, 4, 3}, {9, 9, 8}, {9, 8, 9}} {
		wrong = append(wrong, with(deskOf(9, sentAt(times...)...), func(d *impl.Desk) { d.Box = nil }))
		inOrder := slices.Clone(times)
		slices.Sort(inOrder)
		wrong = append(wrong, with(deskOf(9, sentAt(inOrder...)...), func(d *impl.Desk) {
			d.Box = slices.Clone(d.Audit)
			slices.Reverse(d.Box)
		}))
	}
	for _, n := range []int{21, 22, impl.MaxList, impl.MaxList + 1} {
		wrong = append(wrong, deskOf(int64(n)-1, everyStep(n)...), deskOf(int64(n), everyStep(n)...))
	}
	for _, n := range []int{7, 8, 20, impl.MaxList, impl.MaxList + 1} {
		wrong = append(wrong, with(fullBox(), func(d *impl.Desk) { d.Box = slices.Repeat(d.Box[:1], n) }))
	}
	return append(wrong, with(fullBox(), func(d *impl.Desk) { d.Box = slices.Clone(d.Audit[:7]) }))
}

func TestBoxRightOfChannels(t *testing.T) {
	four := fourChannels()
	wantDesk(t, true, impl.Desk{})
	wantDesk(t, true, impl.Desk{Pairs: []impl.Letter{}, Box: []impl.Letter{}, Audit: []impl.Letter{}})
	for from := range 5 {
		for to := from; to <= 4; to++ {
			wantDesk(t, true, impl.Desk{Pairs: four[from:to]})
		}
	}
	// Channels are different if one of their labels is.
	low, high := label(0, 0), label(3, 7)
	wantDesk(t, true, impl.Desk{Pairs: []impl.Letter{channel(high, low), channel(low, high), channel(low, low), channel(high, high)}})
	wantDesk(t, true, impl.Desk{Pairs: []impl.Letter{channel(label(1, 2), low), channel(label(1, 3), low), channel(label(2, 2), low), channel(label(1, 2), label(0, 1))}})
	// The document does not say that a channel leads downwards.
	for _, a := range allLabels() {
		for _, b := range allLabels() {
			wantDesk(t, true, impl.Desk{Pairs: []impl.Letter{channel(a, b)}})
		}
	}
	for _, pairs := range wrongPairs() {
		wantDesk(t, false, impl.Desk{Pairs: pairs})
	}
}

func TestBoxRightOfLetters(t *testing.T) {
	for n := range 4 {
		for _, now := range []int64{0, 1, 5, impl.MaxTime - 100} {
			for _, at := range []int64{0, min(1, now), now} {
				for _, word := range []int64{0, 1, 7, 999999, 1000000} {
					wantDesk(t, true, deskOf(now, sentOver(n, at, word)))
					wantDesk(t, true, with(deskOf(now, sentOver(n, at, word)), func(d *impl.Desk) { d.Box = nil }))
				}
			}
		}
	}
	wantDesk(t, true, deskOf(9, sentAt(0, 0, 0, 3, 5, 5, 9, 9)...))
	wantDesk(t, true, deskOf(9, sentAt(0, 0, 0, 3, 5, 5, 8)...))
	wantDesk(t, true, deskOf(5, sentAt(0, 2, 5)...))
	for _, d := range slices.Concat(wrongLetters(), notAudited(), wrongCounts()) {
		wantDesk(t, false, d)
	}
}

// TestBoxRightOfOldLetters has letters in the box that are not of now: the document demands no more than that they are in the audit log.
func TestBoxRightOfOldLetters(t *testing.T) {
	d := deskOf(9, sentAt(0, 2, 4, 9, 9)...)
	for _, kept := range [][]int{nil, {0}, {1}, {4}, {0, 1}, {1, 2, 4}, {0, 1, 2, 3, 4}, {4, 3}, {0, 0}, {3, 4, 4, 3, 3, 3}} {
		wantDesk(t, true, with(d, func(d *impl.Desk) {
			d.Box = nil
			for _, i := range kept {
				d.Box = append(d.Box, d.Audit[i])
			}
		}))
	}
	// The order is that of the times, not that of the audit log; a letter may be recorded twice.
	wantDesk(t, false, with(d, func(d *impl.Desk) { d.Box = []impl.Letter{d.Audit[1], d.Audit[0]} }))
	wantDesk(t, true, deskOf(4, sentOver(0, 4, 7), sentOver(0, 4, 7)))
	wantDesk(t, true, deskOf(4, sentOver(1, 3, 7), sentOver(1, 3, 7), sentOver(1, 3, 7)))
}

func TestBoxRightLimits(t *testing.T) {
	wantDesk(t, true, fullBox())
	wantDesk(t, true, fullAudit())
	for n := range 24 {
		wantDesk(t, n <= 20, deskOf(int64(n), everyStep(n)...))
		wantDesk(t, n <= 20, deskOf(max(0, int64(n)-1), everyStep(n)...))
	}
	long := deskOf(20, everyStep(20)...)
	for n := range 9 {
		wantDesk(t, n <= 6, with(long, func(d *impl.Desk) { d.Box = slices.Clone(d.Audit[:n]) }))
		wantDesk(t, n <= 6, with(long, func(d *impl.Desk) { d.Box = slices.Clone(d.Audit[20-n:]) }))
	}
	for n := range 8 {
		wantDesk(t, n <= 2, with(deskOf(5, sentAt(slices.Repeat([]int64{5}, n)...)...), func(d *impl.Desk) { d.Box = nil }))
		wantDesk(t, true, deskOf(5, sentAt(slices.Repeat([]int64{4}, n)...)...))
	}
	for _, now := range []int64{0, 1, impl.MaxTime - 101, impl.MaxTime - 100} {
		wantDesk(t, true, impl.Desk{Now: now})
		wantDesk(t, true, deskOf(now, sentAt(0, now)...))
	}
	for _, now := range wrongTimes() {
		wantDesk(t, false, impl.Desk{Now: now})
	}
}

func TestWrongDesksAreRefused(t *testing.T) {
	low, high := label(0, 0), label(2, 0)
	for _, d := range wrongDesks() {
		if plainBoxRight(d) {
			t.Fatalf("not wrong: %+v", d)
		}
		wantDesk(t, false, d)
		wantStep(t, "LetDown", impl.LetDown(d, high, low, 7), impl.DeskStep{Code: impl.ErrForm})
		wantStep(t, "NextTime", impl.NextTime(d), impl.DeskStep{Code: impl.ErrForm})
		for _, a := range []impl.Label{low, label(3, 7), label(0, 8)} {
			wantReads(t, d, a)
		}
	}
}

func TestBoxRightOfMixedDesks(t *testing.T) {
	r := rand.New(rand.NewPCG(9, 1))
	count := map[bool]int{}
	for range 4000 {
		d := mixedDesk(r)
		wantDesk(t, true, d)
		for range 4 {
			changed := cloneDesk(d)
			spoilDesk(r, &changed)
			right := plainBoxRight(changed)
			count[right]++
			wantDesk(t, right, changed)
		}
	}
	if count[true] < 1000 || count[false] < 1000 {
		t.Errorf("the changed desks are too much alike: %v", count)
	}
}
