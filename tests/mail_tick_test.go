package tests

import (
	"math"
	"math/rand/v2"
	"slices"
	"testing"

	"loop.example/g00658/impl"
)

// wantLaid lays a word. The code is written out, the mail is that of the document.
func wantLaid(t *testing.T, code int64, c impl.Config, m impl.Mail, at int64, word int64) impl.Mail {
	t.Helper()
	want := plainMailLay(c, m, at, word)
	if want.Code != code {
		t.Fatalf("the document has code %d, and %d is expected", want.Code, code)
	}
	got := impl.MailLay(c, m, at, word)
	wantMailOut(t, "MailLay", c, got, want)
	return got.Mail
}

// wantDelivered delivers what waits in a valid mail.
func wantDelivered(t *testing.T, c impl.Config, m impl.Mail) impl.Mail {
	t.Helper()
	want := plainMailTick(c, m)
	if want.Code != impl.OK {
		t.Fatalf("the document has code %d", want.Code)
	}
	got := impl.MailTick(c, m)
	wantMailOut(t, "MailTick", c, got, want)
	return got.Mail
}

func TestMailLay(t *testing.T) {
	c, m := plainConfig(), busyMail()
	b := busyMail().Boxes
	wantBoxes(t, wantLaid(t, impl.OK, c, m, 1, 6), b[0], boxOf([]int64{-5, 6}, []int64{4, 4}, b[1].Log...), b[2])
	wantBoxes(t, wantLaid(t, impl.OK, c, m, 2, -6), b[0], b[1], boxOf([]int64{-6}, b[2].Here, b[2].Log...))
	wantBoxes(t, wantLaid(t, impl.OK, onePair(1), impl.MailNew(onePair(1)), 0, 0), boxOf([]int64{0}, nil))
	wantLaid(t, impl.ErrRange, c, m, 0, 6)
	// A word that was laid takes the room of one that is released, and the other way round.
	c = onePair(2)
	m = wantSentOver(t, impl.OK, c, wantLaid(t, impl.OK, c, impl.MailNew(c), 0, 6), 0, 7, 3)
	wantBoxes(t, m, boxOf([]int64{6, 7}, nil, note(3, 7)))
	wantSentOver(t, impl.ErrRange, c, m, 0, 8, 3)
	wantLaid(t, impl.ErrRange, c, m, 0, 8)
	m = wantLaid(t, impl.OK, c, wantSentOver(t, impl.OK, c, impl.MailNew(c), 0, 7, 3), 0, 6)
	wantBoxes(t, m, boxOf([]int64{7, 6}, nil, note(3, 7)))
}

func TestMailLayOfAnyWord(t *testing.T) {
	for _, word := range []int64{math.MinInt64, math.MinInt64 + 1, -(1 << 32), -1, 0, 1, 64, 1 << 32, math.MaxInt64 - 1, math.MaxInt64} {
		for _, c := range mailConfigs() {
			for i := range c.Pairs {
				m := wantLaid(t, impl.OK, c, impl.MailNew(c), int64(i), word)
				wantBoxes(t, m, slices.Concat(make([]impl.Box, i), []impl.Box{boxOf([]int64{word}, nil)}, make([]impl.Box, len(c.Pairs)-i-1))...)
			}
		}
	}
}

func TestMailLayOfIndexes(t *testing.T) {
	for _, c := range mailConfigs() {
		n := int64(len(c.Pairs))
		for at := range n {
			wantLaid(t, impl.OK, c, impl.MailNew(c), at, 7)
		}
		for _, at := range append(wrongNums(), -2, -1, n, n+1, 4, 5, 400) {
			wantLaid(t, impl.ErrNone, c, impl.MailNew(c), at, 7)
			wantLaid(t, impl.ErrNone, c, fullMail(c, 0), at, 7)
		}
	}
}

func TestMailLayWithinTheRate(t *testing.T) {
	for _, c := range mailConfigs() {
		for i, p := range c.Pairs {
			m := withBox(fullMail(c, 0), i, func(b *impl.Box) { b.Next = nil })
			for n := range p.Rate {
				// A full log does not matter.
				m = wantLaid(t, impl.OK, c, m, int64(i), n)
			}
			for k := range c.Pairs {
				wantLaid(t, impl.ErrRange, c, m, int64(k), 9)
			}
		}
	}
}

// TestMailLayOrderOfErrors has invalid mails with indexes that are not there, and with full boxes.
func TestMailLayOrderOfErrors(t *testing.T) {
	for _, c := range mailConfigs() {
		n := int64(len(c.Pairs))
		for _, m := range wrongMails(c) {
			for _, at := range []int64{-1, 0, n - 1, n, n + 1, math.MinInt64, math.MaxInt64} {
				wantLaid(t, impl.ErrForm, c, m, at, 7)
			}
		}
		wrong := withConfig(c, func(c *impl.Config) { c.Half = 0 })
		for at := int64(-1); at <= n; at++ {
			wantLaid(t, impl.ErrForm, wrong, fullMail(c, 0), at, 7)
			wantLaid(t, impl.ErrForm, c, mailOf(append(fullMail(c, 0).Boxes, impl.Box{})...), at, 7)
		}
	}
	for _, c := range wrongConfigs() {
		for _, at := range []int64{-1, 0, 1, 5} {
			wantLaid(t, impl.ErrForm, c, mailOf(make([]impl.Box, len(c.Pairs))...), at, 7)
		}
	}
}

func TestMailTick(t *testing.T) {
	c := plainConfig()
	b := busyMail().Boxes
	m := wantDelivered(t, c, busyMail())
	// What was here is no longer, also where nothing waited.
	wantBoxes(t, m, boxOf(nil, []int64{7}, b[0].Log...), boxOf(nil, []int64{-5}, b[1].Log...), boxOf(nil, nil, b[2].Log...))
	m = wantDelivered(t, c, m)
	wantBoxes(t, m, boxOf(nil, nil, b[0].Log...), boxOf(nil, nil, b[1].Log...), boxOf(nil, nil, b[2].Log...))
	wantBoxes(t, wantDelivered(t, c, m), m.Boxes...)
	wantBoxes(t, wantDelivered(t, wide(8), impl.Mail{}))
	for _, c := range mailConfigs() {
		wantBoxes(t, wantDelivered(t, c, impl.MailNew(c)), make([]impl.Box, len(c.Pairs))...)
		full := fullMail(c, 0)
		for i := range full.Boxes {
			full.Boxes[i].Next = nil
		}
		wantBoxes(t, wantDelivered(t, c, fullMail(c, 0)), full.Boxes...)
	}
}

func TestMailTickInOrder(t *testing.T) {
	for _, words := range [][]int64{{1, 2, 3}, {3, 2, 1}, {2, 3, 1}, {5, 5, 4}, {4, 5, 5}, {0, 0, 0}, {math.MaxInt64, math.MinInt64, 0}, {7, 7}, {-1}} {
		wantBoxes(t, wantDelivered(t, onePair(3), mailOf(boxOf(words, []int64{9, 8, 6}))), boxOf(nil, words))
	}
}

func TestMailTickOfWrongMails(t *testing.T) {
	for _, c := range mailConfigs() {
		for _, m := range wrongMails(c) {
			wantMailOut(t, "MailTick", c, impl.MailTick(c, m), impl.MailOut{Code: impl.ErrForm})
		}
	}
	for _, c := range wrongConfigs() {
		for _, n := range []int{0, 1, len(c.Pairs)} {
			wantMailOut(t, "MailTick", c, impl.MailTick(c, mailOf(make([]impl.Box, n)...)), impl.MailOut{Code: impl.ErrForm})
		}
	}
}

func TestLaidAndTickedMixedMails(t *testing.T) {
	r := rand.New(rand.NewPCG(29, 4))
	count := map[int64]int{}
	for range 6000 {
		c := mailConfig(r)
		m := mixedMail(r, c, 999900)
		if r.IntN(4) == 0 {
			spoilMail(r, &m)
		}
		at, word := r.Int64N(6)-1, mixedWord(r)
		want := plainMailLay(c, m, at, word)
		count[want.Code]++
		wantLaid(t, want.Code, c, m, at, word)
		wantMailOut(t, "MailTick", c, impl.MailTick(c, m), plainMailTick(c, m))
	}
	if len(count) != 4 || count[impl.OK] < 400 || count[impl.ErrForm] < 400 || count[impl.ErrNone] < 400 || count[impl.ErrRange] < 400 {
		t.Errorf("the mails are too much alike: %v", count)
	}
}
