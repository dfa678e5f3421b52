package tests

import (
	"math/rand/v2"
	"reflect"
	"testing"

	"loop.example/g00658/impl"
)

// roomyMail is a copy of a mail, all slices of which, the empty ones too, have room behind their elements.
func roomyMail(m impl.Mail) impl.Mail {
	copied := impl.Mail{Boxes: make([]impl.Box, 0, len(m.Boxes)+2)}
	for _, b := range m.Boxes {
		copied.Boxes = append(copied.Boxes, impl.Box{
			Next: append(make([]int64, 0, len(b.Next)+2), b.Next...),
			Here: append(make([]int64, 0, len(b.Here)+2), b.Here...),
			Log:  append(make([]impl.Note, 0, len(b.Log)+2), b.Log...),
		})
	}
	return copied
}

// stretchedMail is the same mail, with all slices reaching to the end of their room.
func stretchedMail(m impl.Mail) impl.Mail {
	boxes := append([]impl.Box(nil), m.Boxes[:cap(m.Boxes)]...)
	for i, b := range boxes {
		boxes[i] = impl.Box{Next: b.Next[:cap(b.Next)], Here: b.Here[:cap(b.Here)], Log: b.Log[:cap(b.Log)]}
	}
	return impl.Mail{Boxes: boxes}
}

// markMail writes a different number into each place of a mail's slices, also behind their ends, and reports whether each keeps its own.
func markMail(m impl.Mail) bool {
	whole := stretchedMail(m)
	var places []*int64
	for _, b := range whole.Boxes {
		for i := range b.Next {
			places = append(places, &b.Next[i])
		}
		for i := range b.Here {
			places = append(places, &b.Here[i])
		}
		for i := range b.Log {
			places = append(places, &b.Log[i].At, &b.Log[i].Word)
		}
	}
	for i, place := range places {
		*place = 1000 + int64(i)
	}
	for i, place := range places {
		if *place != 1000+int64(i) {
			return false
		}
	}
	clear(m.Boxes[:cap(m.Boxes)])
	return true
}

// wantMailApart makes a call twice with the same arguments and writes into the first result: neither the second one nor an argument may change.
func wantMailApart(t *testing.T, what string, c impl.Config, m impl.Mail, call func(c impl.Config, m impl.Mail) impl.Mail) {
	t.Helper()
	config, mail := roomyConfig(c), roomyMail(m)
	configBefore, mailBefore := cloneConfig(stretchedConfig(config)), cloneMail(stretchedMail(mail))
	wantKept := func(why string) {
		t.Helper()
		if !reflect.DeepEqual(configBefore, cloneConfig(stretchedConfig(config))) || !reflect.DeepEqual(mailBefore, cloneMail(stretchedMail(mail))) {
			t.Errorf("%s: %s", what, why)
		}
	}
	first, second := call(config, mail), call(config, mail)
	kept := cloneMail(second)
	wantKept("an argument is changed")
	if !markMail(first) {
		t.Errorf("%s: parts of the result share memory", what)
	}
	if !sameMail(second, kept) {
		t.Errorf("%s: two results share memory", what)
	}
	wantKept("the result shares memory with an argument")
	if !sameMail(kept, call(cloneConfig(c), cloneMail(m))) {
		t.Errorf("%s: another result with room behind the slices", what)
	}
}

// wantAllMailsApart makes each call for one pair, done or refused.
func wantAllMailsApart(t *testing.T, c impl.Config, m impl.Mail, x impl.Pair, at int64, now int64) {
	t.Helper()
	wantMailApart(t, "MailNew", c, m, func(c impl.Config, m impl.Mail) impl.Mail { return impl.MailNew(c) })
	wantMailApart(t, "MailSend", c, m, func(c impl.Config, m impl.Mail) impl.Mail {
		return impl.MailSend(c, m, x.From, x.To, 7, now).Mail
	})
	wantMailApart(t, "MailLay", c, m, func(c impl.Config, m impl.Mail) impl.Mail { return impl.MailLay(c, m, at, 7).Mail })
	wantMailApart(t, "MailTick", c, m, func(c impl.Config, m impl.Mail) impl.Mail { return impl.MailTick(c, m).Mail })
	wantMailApart(t, "MailRight, MailView and MailAudit", c, m, func(c impl.Config, m impl.Mail) impl.Mail {
		right, view, audit := impl.MailRight(c, m), impl.MailView(c, m, x.To), impl.MailAudit(c, m, x.From)
		if right != plainMailRight(c, m) || view != plainMailView(c, m, x.To) || audit != plainMailAudit(c, m, x.From) {
			t.Errorf("another result for %+v with room behind its slices", fewOfMail(m))
		}
		return impl.Mail{}
	})
}

func TestMailsShareNoMemory(t *testing.T) {
	r := rand.New(rand.NewPCG(29, 8))
	for range 800 {
		c := mailConfig(r)
		m := mixedMail(r, c, 9)
		if r.IntN(4) == 0 {
			spoilMail(r, &m)
		}
		wantAllMailsApart(t, c, m, mixedEnds(r, c), r.Int64N(6)-1, 9)
	}
	for _, c := range mailConfigs() {
		for i, x := range c.Pairs {
			for _, m := range []impl.Mail{impl.MailNew(c), fullMail(c, 0), fullMail(c, 1), withBox(fullMail(c, 1), i, func(b *impl.Box) { b.Log = notesAt(9) })} {
				wantAllMailsApart(t, c, m, x, int64(i), 9)
			}
		}
		wantAllMailsApart(t, c, impl.MailNew(c), pair(label(0, 0), label(0, 0), 1), -1, 9)
	}
}

// TestWrongMailsAreKept looks at arguments that are refused.
func TestWrongMailsAreKept(t *testing.T) {
	for _, c := range mailConfigs() {
		for _, m := range wrongMails(c) {
			wantAllMailsApart(t, c, m, pair(label(1, 0), label(0, 0), 1), 0, 9)
		}
	}
	for _, c := range wrongConfigs() {
		wantAllMailsApart(t, c, mailOf(make([]impl.Box, len(c.Pairs))...), pair(label(1, 0), label(0, 0), 1), 0, 9)
	}
}

// TestMailPartsAreTheirOwn has boxes that share their lists: those of the results do not.
func TestMailPartsAreTheirOwn(t *testing.T) {
	c, words, log := fullConfig(), make([]int64, 2, 3), notesAt(1, 2)
	b := impl.Box{Next: words, Here: words, Log: log}
	m := mailOf(b, b, b, b)
	for i, x := range c.Pairs {
		sent, laid, ticked := impl.MailSend(c, m, x.From, x.To, 7, 3), impl.MailLay(c, m, int64(i), 7), impl.MailTick(c, m)
		for _, out := range []impl.MailOut{sent, laid, ticked} {
			if out.Code != impl.OK || len(out.Mail.Boxes) != 4 || !markMail(out.Mail) {
				t.Errorf("code %d, or parts of the result share memory", out.Code)
			}
		}
	}
	if !reflect.DeepEqual(words[:3], []int64{0, 0, 0}) || !reflect.DeepEqual(log, notesAt(1, 2)) {
		t.Error("the argument has changed")
	}
}

// TestMailsKeepNoState makes other calls, and refused ones, between two that are the same.
func TestMailsKeepNoState(t *testing.T) {
	c := plainConfig()
	for range 5 {
		wantSentOver(t, impl.OK, c, busyMail(), 1, 6, 9)
		impl.MailSend(fullConfig(), impl.MailNew(fullConfig()), label(3, 7), label(0, 0), 5, 999900)
		impl.MailLay(c, busyMail(), 2, 8)
		wantSentOver(t, impl.ErrForm, c, busyMail(), 1, 6, 8)
		wantLaid(t, impl.OK, c, busyMail(), 1, 6)
		impl.MailTick(c, busyMail())
		wantMailView(t, numText(0, 0), c, busyMail(), label(0, 0))
		wantMailAudit(t, numText(1, 3, 0, 4, 0, 4, 9, -5), c, busyMail(), label(1, 1))
		wantBoxes(t, impl.MailNew(onePair(1)), impl.Box{})
	}
}
