package tests

import (
	"math"
	"math/rand/v2"
	"testing"

	"loop.example/g00658/impl"
)

func wantMailView(t *testing.T, want string, c impl.Config, m impl.Mail, a impl.Label) {
	t.Helper()
	if got := impl.MailView(c, m, a); got != want || got != plainMailView(c, m, a) {
		t.Fatalf("MailView(%+v, %+v) = %q, want %q", fewOfMail(m), a, got, want)
	}
}

func wantMailAudit(t *testing.T, want string, c impl.Config, m impl.Mail, a impl.Label) {
	t.Helper()
	if got := impl.MailAudit(c, m, a); got != want || got != plainMailAudit(c, m, a) {
		t.Fatalf("MailAudit(%+v, %+v) = %q, want %q", fewOfMail(m), a, got, want)
	}
}

// TestMailExample is the example of the document, from the first word on.
func TestMailExample(t *testing.T) {
	c, low, high := onePair(1), label(0, 0), label(1, 0)
	m := wantSent(t, impl.OK, c, impl.MailNew(c), high, low, 7, 3)
	wantSent(t, impl.ErrRange, c, m, high, low, 8, 3)
	wantMailView(t, "\x00\x00", c, m, low)
	wantMailAudit(t, "\x00\x02\x06\x0e", c, m, high)
	m = wantDelivered(t, c, m)
	wantBoxes(t, m, boxOf(nil, []int64{7}, note(3, 7)))
	wantMailView(t, "\x00\x02\x0e", c, m, low)
	wantMailView(t, "\x00\x02\x0e", c, m, high)
	wantMailAudit(t, "", c, m, low)
	m = wantDelivered(t, c, m)
	wantMailView(t, "\x00\x00", c, m, low)
	wantMailAudit(t, "\x00\x02\x06\x0e", c, m, high)
	wantLaid(t, impl.ErrNone, c, m, 1, 2)
}

// TestMailViewOfReceivers has labels that dominate one receiver, some of them, all and none.
func TestMailViewOfReceivers(t *testing.T) {
	first, second, third := numText(0, 0), numText(1, 2, 4, 4), numText(2, 3, math.MinInt64, 0, math.MaxInt64)
	for _, a := range allLabels() {
		// The receivers are 0:, 1: and 1:.
		want := first
		if a.Level >= 1 {
			want += second + third
		}
		wantMailView(t, want, plainConfig(), busyMail(), a)
	}
	m := mailOf(boxOf(nil, []int64{10}), boxOf(nil, []int64{11, 12}), boxOf(nil, []int64{13}), boxOf(nil, nil))
	for _, a := range allLabels() {
		// The receivers are 0:b, 0:a, 0:a and 0:b.
		want := map[int64]string{1: "\x02\x04\x16\x18\x04\x02\x1a", 2: "\x00\x02\x14\x06\x00", 3: "\x00\x02\x14\x02\x04\x16\x18\x04\x02\x1a\x06\x00"}[a.Set&3]
		wantMailView(t, want, crossPairs(), m, a)
	}
}

// TestMailAuditOfSenders has labels that dominate one sender, some of them, all and none.
func TestMailAuditOfSenders(t *testing.T) {
	first, second := numText(0, 1, 3, 7), numText(1, 3, 0, 4, 0, 4, 9, -5)
	third := numText(2, 2, 5, 0, 8, math.MaxInt64)
	for _, a := range allLabels() {
		// The senders are 2:a, 1:a and 2:a.
		want := ""
		if a.Level >= 2 && a.Set&1 == 1 {
			want = first + second + third
		} else if a.Level == 1 && a.Set&1 == 1 {
			want = second
		}
		wantMailAudit(t, want, plainConfig(), busyMail(), a)
	}
	m := mailOf(boxOf(nil, nil), boxOf(nil, nil, note(1, 2)), boxOf(nil, nil, note(3, 4)), boxOf(nil, nil, note(5, 6)))
	for _, a := range allLabels() {
		// The senders are 0:a, 0:b, 2:ab and 2:ab.
		want := map[int64]string{1: "\x00\x00", 2: "\x02\x02\x02\x04", 3: "\x00\x00\x02\x02\x02\x04"}[a.Set&3]
		if a.Set&3 == 3 && a.Level >= 2 {
			want += "\x04\x02\x06\x08\x06\x02\x0a\x0c"
		}
		wantMailAudit(t, want, crossPairs(), m, a)
	}
}

// TestMailViewOfEmptyBoxes has the index of each pair that is visible, and no words or notes.
func TestMailViewOfEmptyBoxes(t *testing.T) {
	top := label(3, 7)
	for n, c := range map[int]impl.Config{0: wide(8), 1: onePair(2), 3: plainConfig(), 4: fullConfig()} {
		want := "\x00\x00\x02\x00\x04\x00\x06\x00"[:2*n]
		wantMailView(t, want, c, impl.MailNew(c), top)
		wantMailAudit(t, want, c, impl.MailNew(c), top)
		wantMailView(t, want, c, mailOf(make([]impl.Box, n)...), top)
	}
	empty := mailOf(impl.Box{Next: []int64{}, Here: []int64{}, Log: []impl.Note{}})
	wantMailView(t, "\x00\x00", onePair(2), empty, top)
	wantMailAudit(t, "\x00\x00", onePair(2), empty, top)
	wantMailView(t, "", wide(1), impl.Mail{}, top)
	wantMailAudit(t, "", wide(1), impl.Mail{}, top)
}

// TestMailViewOfFullBoxes has the longest texts, with numbers of ten bytes.
func TestMailViewOfFullBoxes(t *testing.T) {
	c := fullConfig()
	m := fullMail(c, 0)
	var view, audit string
	for i := range m.Boxes {
		m.Boxes[i].Here = []int64{math.MinInt64, math.MaxInt64, math.MinInt64}
		view += numText(int64(i), 3, math.MinInt64, math.MaxInt64, math.MinInt64)
		audit += numText(int64(i), 12)
		for k := range m.Boxes[i].Log {
			m.Boxes[i].Log[k] = note(999900, math.MinInt64)
			audit += numText(999900, math.MinInt64)
		}
	}
	wantMailView(t, view, c, m, label(3, 7))
	wantMailAudit(t, audit, c, m, label(3, 7))
	if len(view) != 128 || len(audit) != 632 {
		t.Errorf("%d and %d bytes are seen", len(view), len(audit))
	}
}

func TestMailViewOfWrongArguments(t *testing.T) {
	for _, c := range mailConfigs() {
		for _, a := range wrongLabels() {
			wantMailView(t, "", c, fullMail(c, 0), a)
			wantMailAudit(t, "", c, fullMail(c, 0), a)
		}
		for _, m := range wrongMails(c) {
			wantMailView(t, "", c, m, label(3, 7))
			wantMailAudit(t, "", c, m, label(3, 7))
			wantMailView(t, "", c, m, label(4, 0))
			wantMailAudit(t, "", c, m, label(4, 0))
		}
	}
	for _, c := range wrongConfigs() {
		m := mailOf(make([]impl.Box, len(c.Pairs))...)
		wantMailView(t, "", c, m, label(3, 7))
		wantMailAudit(t, "", c, m, label(3, 7))
	}
}

func TestMailViewOfMixedMails(t *testing.T) {
	r := rand.New(rand.NewPCG(29, 5))
	for range 1500 {
		c := mailConfig(r)
		m := mixedMail(r, c, 999900)
		if r.IntN(6) == 0 {
			spoilMail(r, &m)
		}
		for _, a := range append(allLabels(), wrongLabels()[r.IntN(10)]) {
			wantMailView(t, plainMailView(c, m, a), c, m, a)
			wantMailAudit(t, plainMailAudit(c, m, a), c, m, a)
		}
	}
}
