package tests

import (
	"math"
	"math/rand/v2"
	"slices"
	"testing"

	"loop.example/g00658/impl"
)

// wantMailOut compares what a call returns with what it should. A mail that is returned is valid, and beside a refusal there is none.
func wantMailOut(t *testing.T, what string, c impl.Config, got impl.MailOut, want impl.MailOut) {
	t.Helper()
	if got.Code != want.Code || !sameMail(got.Mail, want.Mail) {
		t.Fatalf("%s: code %d, %+v, want %d, %+v", what, got.Code, fewOfMail(got.Mail), want.Code, fewOfMail(want.Mail))
	}
	if got.Code == impl.OK && !impl.MailRight(c, got.Mail) {
		t.Fatalf("%s: an invalid mail, %+v", what, fewOfMail(got.Mail))
	}
	if got.Code != impl.OK && len(got.Mail.Boxes) != 0 {
		t.Fatalf("%s: code %d, and %d boxes", what, got.Code, len(got.Mail.Boxes))
	}
}

// wantSent releases a word. The code is written out, the mail is that of the document.
func wantSent(t *testing.T, code int64, c impl.Config, m impl.Mail, from impl.Label, to impl.Label, word int64, now int64) impl.Mail {
	t.Helper()
	want := plainMailSend(c, m, from, to, word, now)
	if want.Code != code {
		t.Fatalf("the document has code %d, and %d is expected", want.Code, code)
	}
	got := impl.MailSend(c, m, from, to, word, now)
	wantMailOut(t, "MailSend", c, got, want)
	return got.Mail
}

// wantSentOver is the same for the pair with an index.
func wantSentOver(t *testing.T, code int64, c impl.Config, m impl.Mail, at int, word int64, now int64) impl.Mail {
	t.Helper()
	return wantSent(t, code, c, m, c.Pairs[at].From, c.Pairs[at].To, word, now)
}

func wantBoxes(t *testing.T, m impl.Mail, want ...impl.Box) {
	t.Helper()
	if !sameMail(m, mailOf(want...)) {
		t.Errorf("the boxes are %+v, want %+v", m.Boxes, want)
	}
}

func TestMailSend(t *testing.T) {
	c, m := plainConfig(), busyMail()
	b := busyMail().Boxes
	wantBoxes(t, wantSentOver(t, impl.OK, c, m, 1, 6, 9), b[0], boxOf([]int64{-5, 6}, []int64{4, 4}, note(0, 4), note(0, 4), note(9, -5), note(9, 6)), b[2])
	wantBoxes(t, wantSentOver(t, impl.OK, c, m, 2, 0, 8), b[0], b[1], boxOf([]int64{0}, []int64{math.MinInt64, 0, math.MaxInt64}, note(5, 0), note(8, math.MaxInt64), note(8, 0)))
	wantBoxes(t, wantSentOver(t, impl.OK, c, impl.MailNew(c), 0, -1, 999900), boxOf([]int64{-1}, nil, note(999900, -1)), impl.Box{}, impl.Box{})
	// The word that waits has not been delivered yet.
	wantSentOver(t, impl.ErrRange, c, m, 0, 6, 9)
}

// TestMailSendInOrder releases the same word twice, and a lesser one behind a greater one.
func TestMailSendInOrder(t *testing.T) {
	c := onePair(3)
	m := wantSentOver(t, impl.OK, c, impl.MailNew(c), 0, 5, 2)
	wantBoxes(t, m, boxOf([]int64{5}, nil, note(2, 5)))
	m = wantSentOver(t, impl.OK, c, m, 0, 5, 2)
	wantBoxes(t, m, boxOf([]int64{5, 5}, nil, note(2, 5), note(2, 5)))
	m = wantSentOver(t, impl.OK, c, m, 0, -8, 4)
	wantBoxes(t, m, boxOf([]int64{5, 5, -8}, nil, note(2, 5), note(2, 5), note(4, -8)))
	wantSentOver(t, impl.ErrRange, c, m, 0, 1, 4)
}

func TestMailSendOfAnyWord(t *testing.T) {
	for _, word := range []int64{math.MinInt64, math.MinInt64 + 1, -(1 << 32), -1000001, -1, 0, 1, 63, 64, 1000001, 1 << 32, math.MaxInt64 - 1, math.MaxInt64} {
		for _, c := range mailConfigs() {
			for i := range c.Pairs {
				m := wantSentOver(t, impl.OK, c, impl.MailNew(c), i, word, 3)
				if !slices.Equal(m.Boxes[i].Next, []int64{word}) || !slices.Equal(m.Boxes[i].Log, []impl.Note{note(3, word)}) {
					t.Errorf("the box of pair %d is %+v after the word %d", i, m.Boxes[i], word)
				}
			}
		}
	}
}

func TestMailSendAtAnyTime(t *testing.T) {
	c := onePair(1)
	for _, now := range []int64{0, 1, 5, 999899, 999900} {
		wantSentOver(t, impl.OK, c, impl.MailNew(c), 0, 7, now)
		after := mailOf(boxOf(nil, nil, note(0, 1), note(now, 2)))
		wantSentOver(t, impl.OK, c, after, 0, 7, now)
		if now > 0 {
			wantSentOver(t, impl.ErrForm, c, after, 0, 7, now-1)
			wantSentOver(t, impl.ErrForm, c, after, 0, 7, 0)
		}
		if now < 999900 {
			wantSentOver(t, impl.OK, c, after, 0, 7, now+1)
			wantSentOver(t, impl.OK, c, after, 0, 7, 999900)
		}
	}
	for _, now := range wrongTimes() {
		for _, m := range []impl.Mail{impl.MailNew(c), mailOf(boxOf(nil, nil, notesAt(0)...)), mailOf(boxOf(nil, nil, notesAt(999900)...))} {
			wantSentOver(t, impl.ErrForm, c, m, 0, 7, now)
		}
	}
}

// TestMailSendLooksAtItsOwnBox has later notes, no room for words and no room for notes in all boxes but one.
func TestMailSendLooksAtItsOwnBox(t *testing.T) {
	for _, c := range []impl.Config{plainConfig(), crossPairs(), fullConfig()} {
		for i := range c.Pairs {
			m := withBox(fullMail(c, 0), i, func(b *impl.Box) { b.Next, b.Log = nil, notesAt(0, 4) })
			wantSentOver(t, impl.OK, c, m, i, 7, 4)
			for k := range c.Pairs {
				if k != i {
					wantSentOver(t, impl.ErrForm, c, m, k, 7, 4)
					wantSentOver(t, impl.ErrRange, c, m, k, 7, 9)
				}
			}
		}
	}
}

func TestMailSendWithinTheRate(t *testing.T) {
	for _, c := range mailConfigs() {
		for i, p := range c.Pairs {
			m := impl.MailNew(c)
			for n := range p.Rate {
				m = wantSentOver(t, impl.OK, c, m, i, n, 5)
			}
			wantSentOver(t, impl.ErrRange, c, m, i, 9, 5)
			// It does not matter how much has been delivered.
			m = wantDelivered(t, c, m)
			for n := range p.Rate {
				m = wantSentOver(t, impl.OK, c, m, i, n, 5)
			}
			wantSentOver(t, impl.ErrRange, c, m, i, 9, 5)
		}
	}
}

func TestMailSendWithFullLogs(t *testing.T) {
	for _, c := range mailConfigs() {
		for i := range c.Pairs {
			for n := range 13 {
				m := withBox(plainMailNew(c), i, func(b *impl.Box) { b.Log = sameNotes(n, 5) })
				wantSentOver(t, int64(impl.ErrFull*btoi(n == 12)), c, m, i, 7, 5)
				wantSentOver(t, int64(impl.ErrFull*btoi(n == 12)), c, m, i, 7, 999900)
			}
		}
	}
}

// TestMailSendOfOtherLabels has any two labels, of which only some are a pair; the other way round there may be another one.
func TestMailSendOfOtherLabels(t *testing.T) {
	labels := append(allLabels(), label(4, 0), label(-1, 0), label(0, 8), label(0, -1), label(math.MinInt64, math.MaxInt64))
	for _, c := range mailConfigs() {
		m := impl.MailNew(c)
		for _, from := range labels {
			for _, to := range labels {
				code := int64(impl.ErrLabel)
				if plainPairAt(c, from, to) >= 0 {
					code = impl.OK
				}
				wantSent(t, code, c, m, from, to, 7, 5)
			}
		}
	}
	low, high := label(0, 0), label(1, 0)
	wantSent(t, impl.OK, onePair(1), impl.MailNew(onePair(1)), high, low, 7, 5)
	for _, a := range append(wrongLabels(), low) {
		wantSent(t, impl.ErrLabel, onePair(1), impl.MailNew(onePair(1)), a, low, 7, 5)
	}
	for _, a := range append(wrongLabels(), high) {
		wantSent(t, impl.ErrLabel, onePair(1), impl.MailNew(onePair(1)), high, a, 7, 5)
	}
	wantSent(t, impl.ErrLabel, onePair(1), impl.MailNew(onePair(1)), low, high, 7, 5)
	wantSent(t, impl.ErrLabel, wide(8), impl.MailNew(wide(8)), high, low, 7, 5)
}

func TestMailSendOfWrongMails(t *testing.T) {
	for _, c := range mailConfigs() {
		for _, m := range wrongMails(c) {
			for i := range c.Pairs {
				wantSentOver(t, impl.ErrForm, c, m, i, 7, 999900)
			}
			wantSent(t, impl.ErrForm, c, m, label(0, 0), label(0, 0), 7, 999900)
		}
	}
	for _, c := range wrongConfigs() {
		m := mailOf(make([]impl.Box, len(c.Pairs))...)
		for i := range c.Pairs[:min(len(c.Pairs), 5)] {
			wantSentOver(t, impl.ErrForm, c, m, i, 7, 5)
		}
		wantSent(t, impl.ErrForm, c, m, label(1, 0), label(0, 0), 7, 5)
	}
}

// sendFault is a thing that a release may have against it.
type sendFault struct {
	code  int64
	spoil func(c *impl.Config, m *impl.Mail, at int, from *impl.Label, now *int64)
}

// sendFaults are in the order in which the document lists the errors. They are about the pair with index at, and the time is 5.
func sendFaults() []sendFault {
	return []sendFault{
		{impl.ErrForm, func(c *impl.Config, m *impl.Mail, at int, from *impl.Label, now *int64) { c.Half = 0 }},
		{impl.ErrForm, func(c *impl.Config, m *impl.Mail, at int, from *impl.Label, now *int64) {
			m.Boxes = append(m.Boxes, impl.Box{})
		}},
		{impl.ErrForm, func(c *impl.Config, m *impl.Mail, at int, from *impl.Label, now *int64) { m.Boxes[at].Here = upTo(4) }},
		{impl.ErrForm, func(c *impl.Config, m *impl.Mail, at int, from *impl.Label, now *int64) { *now = -1 }},
		{impl.ErrForm, func(c *impl.Config, m *impl.Mail, at int, from *impl.Label, now *int64) { *now = 999901 }},
		{impl.ErrLabel, func(c *impl.Config, m *impl.Mail, at int, from *impl.Label, now *int64) { *from = label(3, 0) }},
		{impl.ErrForm, func(c *impl.Config, m *impl.Mail, at int, from *impl.Label, now *int64) {
			m.Boxes[at].Log[len(m.Boxes[at].Log)-1].At = 6
		}},
		{impl.ErrRange, func(c *impl.Config, m *impl.Mail, at int, from *impl.Label, now *int64) {
			m.Boxes[at].Next = upTo(c.Pairs[at].Rate)
		}},
		{impl.ErrFull, func(c *impl.Config, m *impl.Mail, at int, from *impl.Label, now *int64) {
			m.Boxes[at].Log = append(sameNotes(11, 2), m.Boxes[at].Log...)
		}},
	}
}

// TestMailSendOrderOfErrors has any of the faults at once: the first one counts.
func TestMailSendOrderOfErrors(t *testing.T) {
	faults := sendFaults()
	for set := range 1 << len(faults) {
		for _, c := range []impl.Config{onePair(1), plainConfig(), crossPairs(), fullConfig()} {
			for at, p := range c.Pairs {
				changed, m := cloneConfig(c), withBox(plainMailNew(c), at, func(b *impl.Box) { b.Log = notesAt(5) })
				from, now, code := p.From, int64(5), int64(impl.OK)
				for i, fault := range slices.Backward(faults) {
					if set>>i&1 == 1 {
						fault.spoil(&changed, &m, at, &from, &now)
						code = fault.code
					}
				}
				wantSent(t, code, changed, m, from, p.To, 7, now)
			}
		}
	}
}

func TestMailSendOfMixedMails(t *testing.T) {
	r := rand.New(rand.NewPCG(29, 3))
	count := map[int64]int{}
	for range 6000 {
		c := mailConfig(r)
		m := mixedMail(r, c, 9)
		if r.IntN(8) == 0 {
			spoilMail(r, &m)
		}
		from, to := allLabels()[r.IntN(32)], allLabels()[r.IntN(32)]
		if len(c.Pairs) > 0 && r.IntN(5) > 0 {
			p := c.Pairs[r.IntN(len(c.Pairs))]
			from, to = p.From, p.To
		}
		word, now := mixedWord(r), []int64{5, 8, 9, 10, 999900, 999901, -1}[r.IntN(7)]
		want := plainMailSend(c, m, from, to, word, now)
		count[want.Code]++
		wantSent(t, want.Code, c, m, from, to, word, now)
	}
	if len(count) != 5 || count[impl.OK] < 400 || count[impl.ErrForm] < 400 || count[impl.ErrLabel] < 400 || count[impl.ErrRange] < 400 || count[impl.ErrFull] < 200 {
		t.Errorf("the releases are too much alike: %v", count)
	}
}
