package tests

import (
	"math/rand/v2"
	"slices"
	"testing"

	"loop.example/g00658/impl"
)

// wantStep compares a result; what is not an error has to be valid, too.
func wantStep(t *testing.T, what string, got impl.DeskStep, want impl.DeskStep) {
	t.Helper()
	if got.Code != want.Code || !sameDesk(got.Desk, want.Desk) {
		t.Errorf("%s: got %+v, want %+v", what, got, want)
	}
	if got.Code == impl.OK && !impl.BoxRight(got.Desk) {
		t.Errorf("%s: the result is not valid: %+v", what, got)
	}
}

// wantLet expects a code, and with it the result that the document's text gives.
func wantLet(t *testing.T, code int64, d impl.Desk, from impl.Label, to impl.Label, word int64) {
	t.Helper()
	got := impl.LetDown(d, from, to, word)
	if got.Code != code {
		t.Errorf("LetDown(%+v, %+v, %d) of used %d, %d in the box, %d audited: code %d, want %d", from, to, word, d.Used, len(d.Box), len(d.Audit), got.Code, code)
	}
	wantStep(t, "LetDown", got, plainLetDown(d, from, to, word))
}

func TestLetDown(t *testing.T) {
	low, side, high := label(0, 0), label(1, 1), label(2, 0)
	d := deskOf(5, sentOver(3, 2, 9))
	first := impl.LetDown(d, high, side, 7)
	wantStep(t, "the first word", first, impl.DeskStep{Desk: impl.Desk{
		Pairs: fourChannels(), Box: []impl.Letter{letter(high, side, 5, 7)}, Audit: []impl.Letter{sentOver(3, 2, 9), letter(high, side, 5, 7)}, Used: 1, Now: 5,
	}})
	second := impl.LetDown(first.Desk, side, low, 8)
	wantStep(t, "the second word", second, impl.DeskStep{Desk: impl.Desk{
		Pairs: fourChannels(), Used: 2, Now: 5,
		Box:   []impl.Letter{letter(high, side, 5, 7), letter(side, low, 5, 8)},
		Audit: []impl.Letter{sentOver(3, 2, 9), letter(high, side, 5, 7), letter(side, low, 5, 8)},
	}})
	wantStep(t, "the third word", impl.LetDown(second.Desk, high, low, 9), impl.DeskStep{Code: impl.ErrRange})
}

// TestLetDownExample is the example of chapter 7.
func TestLetDownExample(t *testing.T) {
	low, high := label(0, 0), label(2, 0)
	d := impl.Desk{Pairs: []impl.Letter{channel(high, low)}}
	wantLet(t, impl.ErrLabel, d, low, high, 7)
	d = impl.LetDown(impl.LetDown(d, high, low, 7).Desk, high, low, 8).Desk
	wantReads(t, d, low, 7, 8)
	wantLet(t, impl.ErrRange, d, high, low, 9)
	d = impl.NextTime(d).Desk
	wantReads(t, d, low)
	if !slices.Equal(d.Audit, []impl.Letter{letter(high, low, 0, 7), letter(high, low, 0, 8)}) {
		t.Errorf("the audit log is %+v", d.Audit)
	}
	wantLet(t, impl.OK, d, high, low, 9)
}

func TestLetDownWords(t *testing.T) {
	low, high := label(0, 0), label(2, 0)
	for _, d := range []impl.Desk{deskOf(0), deskOf(5, sentAt(1, 5)...), deskOf(impl.MaxTime-100, sentAt(3)...)} {
		for _, word := range []int64{0, 1, 7, 999999, 1000000} {
			wantLet(t, impl.OK, d, high, low, word)
		}
		for _, word := range wrongWords() {
			wantLet(t, impl.ErrForm, d, high, low, word)
		}
	}
	// The same word is released as often as another one.
	d := deskOf(5, sentOver(0, 5, 7))
	wantLet(t, impl.OK, d, high, low, 7)
}

// TestLetDownOverChannelsOnly tries all pairs of labels, as part of promise 9.
func TestLetDownOverChannelsOnly(t *testing.T) {
	for _, pairs := range [][]impl.Letter{nil, fourChannels()[:1], fourChannels(), {channel(label(0, 0), label(0, 0))}, {channel(label(0, 0), label(3, 7)), channel(label(3, 7), label(3, 7))}} {
		d := impl.Desk{Pairs: pairs, Now: 5}
		released := 0
		for _, from := range allLabels() {
			for _, to := range allLabels() {
				code := int64(impl.ErrLabel)
				if slices.Contains(pairs, channel(from, to)) {
					code = impl.OK
					released++
				}
				wantLet(t, code, d, from, to, 7)
			}
		}
		if released != len(pairs) {
			t.Errorf("%d of %d channels were used", released, len(pairs))
		}
	}
}

// TestLetDownOfWrongLabels reads chapter 7 as it stands: an invalid label is not in a pair, and ErrForm is for the desk and the word.
func TestLetDownOfWrongLabels(t *testing.T) {
	low, high := label(0, 0), label(2, 0)
	for _, a := range wrongLabels() {
		wantLet(t, impl.ErrLabel, deskOf(5), a, low, 7)
		wantLet(t, impl.ErrLabel, deskOf(5), high, a, 7)
		wantLet(t, impl.ErrLabel, impl.Desk{}, a, a, 7)
		wantLet(t, impl.ErrForm, deskOf(5), a, low, -1)
	}
}

func TestLetDownRate(t *testing.T) {
	low, high := label(0, 0), label(2, 0)
	for _, now := range []int64{0, 5, impl.MaxTime - 100} {
		wantLet(t, impl.OK, deskOf(now), high, low, 7)
		wantLet(t, impl.OK, deskOf(now, sentAt(now)...), high, low, 7)
		wantLet(t, impl.ErrRange, deskOf(now, sentAt(now, now)...), high, low, 7)
	}
	// The rate is that of the desk, not that of a channel, and words of other times do not count.
	wantLet(t, impl.ErrRange, deskOf(5, sentOver(1, 5, 7), sentOver(2, 5, 7)), high, low, 7)
	wantLet(t, impl.OK, deskOf(5, sentAt(3, 4, 4, 4, 4)...), high, low, 7)
	// It counts the audit log, even if the box has been emptied.
	wantLet(t, impl.ErrRange, with(deskOf(5, sentAt(5, 5)...), func(d *impl.Desk) { d.Box = nil }), high, low, 7)
}

func TestLetDownLimits(t *testing.T) {
	low, high := label(0, 0), label(2, 0)
	wantLet(t, impl.ErrFull, fullBox(), high, low, 7)
	wantLet(t, impl.OK, with(fullBox(), func(d *impl.Desk) { d.Box = d.Box[:5] }), high, low, 7)
	wantLet(t, impl.OK, with(fullBox(), func(d *impl.Desk) { d.Box = nil }), high, low, 7)
	wantLet(t, impl.ErrFull, fullAudit(), high, low, 7)
	wantLet(t, impl.ErrFull, with(fullAudit(), func(d *impl.Desk) { d.Now, d.Used, d.Box = 30, 0, nil }), high, low, 7)
	wantLet(t, impl.ErrFull, with(fullAudit(), func(d *impl.Desk) { d.Box = slices.Clone(d.Audit[14:]) }), high, low, 7)
	for n := range 21 {
		code := int64(impl.OK)
		if n == 20 {
			code = impl.ErrFull
		}
		wantLet(t, code, deskOf(40, everyStep(n)...), high, low, 7)
	}
}

func TestLetDownErrorsInOrder(t *testing.T) {
	low, high := label(0, 0), label(2, 0)
	// Everything that a call can be refused for: the audit log and the box are full, and the rate is used up.
	worst := with(deskOf(18, append(everyStep(18), sentAt(18, 18)...)...), func(d *impl.Desk) { d.Box = slices.Clone(d.Audit[14:]) })
	wrong := with(worst, func(d *impl.Desk) { d.Used = 1 })
	for _, word := range []int64{-1, 1000001, 7} {
		wantLet(t, impl.ErrForm, wrong, high, low, word)
		wantLet(t, impl.ErrForm, wrong, low, high, word)
	}
	for _, d := range []impl.Desk{worst, fullBox(), fullAudit(), deskOf(5, sentAt(5, 5)...), deskOf(5)} {
		for _, word := range wrongWords() {
			wantLet(t, impl.ErrForm, d, high, low, word)
			wantLet(t, impl.ErrForm, d, low, high, word)
		}
		wantLet(t, impl.ErrLabel, d, low, high, 7)
		wantLet(t, impl.ErrLabel, d, high, high, 7)
		wantLet(t, impl.ErrLabel, d, label(4, 0), low, 7)
	}
	wantLet(t, impl.ErrRange, worst, high, low, 7)
	wantLet(t, impl.ErrRange, with(worst, func(d *impl.Desk) { d.Box = nil }), high, low, 7)
	wantLet(t, impl.ErrRange, with(deskOf(9, sentAt(1, 2, 3, 4, 9, 9)...), func(d *impl.Desk) { d.Box = slices.Clone(d.Audit) }), high, low, 7)
}

func TestLetDownOfMixedDesks(t *testing.T) {
	r := rand.New(rand.NewPCG(9, 2))
	codes := map[int64]int{}
	for range 4000 {
		d := mixedDesk(r)
		words := append(wrongWords()[:4], 0, 7, 8, 1000000)
		for _, p := range append(fourChannels()[:1], d.Pairs...) {
			word := words[r.IntN(len(words))]
			want := plainLetDown(d, p.From, p.To, word)
			codes[want.Code]++
			wantLet(t, want.Code, d, p.From, p.To, word)
		}
		spoilDesk(r, &d)
		for _, p := range d.Pairs {
			wantStep(t, "LetDown of a changed desk", impl.LetDown(d, p.From, p.To, 7), plainLetDown(d, p.From, p.To, 7))
		}
	}
	for _, code := range []int64{impl.OK, impl.ErrForm, impl.ErrLabel, impl.ErrRange, impl.ErrFull} {
		if codes[code] < 50 {
			t.Errorf("code %d came only %d times", code, codes[code])
		}
	}
}
