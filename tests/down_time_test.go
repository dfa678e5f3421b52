package tests

import (
	"math/rand/v2"
	"slices"
	"testing"

	"loop.example/g00658/impl"
)

func wantNext(t *testing.T, d impl.Desk, want impl.DeskStep) {
	t.Helper()
	wantStep(t, "NextTime", impl.NextTime(d), want)
}

func wantReads(t *testing.T, d impl.Desk, a impl.Label, want ...int64) {
	t.Helper()
	if got := impl.Reads(d, a); !slices.Equal(got, want) {
		t.Errorf("Reads of %+v from the box %+v: got %v, want %v", a, d.Box[:min(len(d.Box), 6)], got, want)
	}
}

func TestNextTime(t *testing.T) {
	audit := sentAt(0, 2, 5, 5)
	wantNext(t, deskOf(5, audit...), impl.DeskStep{Desk: impl.Desk{Pairs: fourChannels(), Audit: audit, Now: 6}})
	wantNext(t, deskOf(5, audit[:2]...), impl.DeskStep{Desk: impl.Desk{Pairs: fourChannels(), Audit: audit[:2], Now: 6}})
	wantNext(t, impl.Desk{}, impl.DeskStep{Desk: impl.Desk{Now: 1}})
	for _, d := range []impl.Desk{fullBox(), fullAudit(), deskOf(0), deskOf(0, sentAt(0, 0)...)} {
		wantNext(t, d, impl.DeskStep{Desk: impl.Desk{Pairs: d.Pairs, Audit: d.Audit, Now: d.Now + 1}})
	}
}

func TestNextTimeAtTheEnd(t *testing.T) {
	last := int64(impl.MaxTime - 100)
	for _, d := range []impl.Desk{{Now: last}, deskOf(last), deskOf(last, sentAt(0, last)...), deskOf(last, sentAt(last, last)...), with(fullAudit(), func(d *impl.Desk) { d.Now, d.Used = last, 0 })} {
		wantDesk(t, true, d)
		wantNext(t, d, impl.DeskStep{Code: impl.ErrFull})
		d.Used++
		wantNext(t, d, impl.DeskStep{Code: impl.ErrForm})
	}
	audit := sentAt(0, last-1, last-1)
	wantNext(t, deskOf(last-1, audit...), impl.DeskStep{Desk: impl.Desk{Pairs: fourChannels(), Audit: audit, Now: last}})
	for _, now := range wrongTimes() {
		wantNext(t, impl.Desk{Now: now}, impl.DeskStep{Code: impl.ErrForm})
	}
}

func TestReads(t *testing.T) {
	low, side, high := label(0, 0), label(1, 1), label(2, 0)
	// The first and the third letter are for 0:, the second one for 1:a, the last one for 2:.
	d := deskOf(9, sentOver(0, 3, 10), sentOver(1, 4, 11), sentOver(2, 9, 12), sentOver(3, 9, 13))
	d.Box = slices.Clone(d.Audit)
	wantReads(t, d, low, 10, 12)
	wantReads(t, d, label(0, 7), 10, 12)
	wantReads(t, d, label(1, 0), 10, 12)
	wantReads(t, d, label(1, 6), 10, 12)
	wantReads(t, d, side, 10, 11, 12)
	wantReads(t, d, label(1, 5), 10, 11, 12)
	wantReads(t, d, high, 10, 12, 13)
	wantReads(t, d, label(2, 3), 10, 11, 12, 13)
	wantReads(t, d, label(3, 7), 10, 11, 12, 13)
	for _, a := range wrongLabels() {
		wantReads(t, d, a)
	}
	d.Used = 1
	for _, a := range append(allLabels(), wrongLabels()...) {
		wantReads(t, d, a)
	}
}

// TestReadsTheBoxOnly has an audit log with letters that are not in the box, and words that are not in order.
func TestReadsTheBoxOnly(t *testing.T) {
	low, top := label(0, 0), label(3, 7)
	wantReads(t, deskOf(5), top)
	wantReads(t, impl.Desk{}, top)
	wantReads(t, deskOf(5, sentAt(0, 1, 2)...), top)
	wantReads(t, with(deskOf(5, sentAt(0, 5, 5)...), func(d *impl.Desk) { d.Box = nil }), top)
	wantReads(t, deskOf(5, sentOver(0, 2, 9), sentOver(0, 5, 8), sentOver(2, 5, 7)), low, 8, 7)
	wantReads(t, deskOf(5, sentOver(0, 5, 0), sentOver(0, 5, 1000000)), low, 0, 1000000)
	wantReads(t, deskOf(5, sentOver(0, 5, 7), sentOver(0, 5, 7)), low, 7, 7)
	wantReads(t, fullBox(), top, 101, 102, 103, 104, 105, 106)
}

// TestReadsOfEveryLabel sends a word to every label, and looks at who reads it.
func TestReadsOfEveryLabel(t *testing.T) {
	for _, to := range allLabels() {
		d := impl.LetDown(impl.Desk{Pairs: []impl.Letter{channel(label(3, 7), to)}}, label(3, 7), to, 7).Desk
		for _, a := range allLabels() {
			if plainBelow(to, a) {
				wantReads(t, d, a, 7)
			} else {
				wantReads(t, d, a)
			}
		}
	}
}

func TestNextTimeAndReadsOfMixedDesks(t *testing.T) {
	r := rand.New(rand.NewPCG(9, 3))
	for range 2000 {
		d := mixedDesk(r)
		for range 2 {
			wantNext(t, d, plainNextTime(d))
			for _, a := range append(allLabels(), label(4, 0), label(0, 8)) {
				wantReads(t, d, a, plainReads(d, a)...)
			}
			spoilDesk(r, &d)
		}
	}
}
