package tests

import (
	"math/rand/v2"
	"slices"
	"testing"

	"loop.example/g00658/impl"
)

// post is kept beside a mail: what came in for each pair in the epoch that is going on and in the one before, and every note from the first one on.
type post struct {
	config impl.Config
	now    int64
	today  [][]int64
	before [][]int64
	notes  [][]impl.Note
}

func newPost(c impl.Config) *post {
	n := len(c.Pairs)
	return &post{config: c, today: make([][]int64, n), before: make([][]int64, n), notes: make([][]impl.Note, n)}
}

// numsOf reads all numbers of a text.
func numsOf(t *testing.T, text string) []int64 {
	t.Helper()
	var nums []int64
	for at := int64(0); at < int64(len(text)); {
		out := impl.GetNum(text, at)
		if out.Code != impl.OK {
			t.Fatalf("not a list of numbers: %q", text)
		}
		nums, at = append(nums, out.N), out.At
	}
	return nums
}

// wantRead looks at what each label reads: the words of the epoch before, in the order in which they came in, if it dominates their receiver, and the notes if it dominates their sender.
func (p *post) wantRead(t *testing.T, m impl.Mail) {
	t.Helper()
	for _, a := range allLabels() {
		var words, notes []int64
		for i, x := range p.config.Pairs {
			if plainBelow(x.To, a) {
				words = append(append(words, int64(i), int64(len(p.before[i]))), p.before[i]...)
			}
			if !plainBelow(x.From, a) {
				continue
			}
			notes = append(notes, int64(i), int64(len(p.notes[i])))
			for _, n := range p.notes[i] {
				notes = append(notes, n.At, n.Word)
			}
		}
		if got := numsOf(t, impl.MailView(p.config, m, a)); !slices.Equal(got, words) {
			t.Fatalf("%+v reads %v, want %v", a, got, words)
		}
		if got := numsOf(t, impl.MailAudit(p.config, m, a)); !slices.Equal(got, notes) {
			t.Fatalf("%+v reads the notes %v, want %v", a, got, notes)
		}
	}
}

// wantKept compares a mail with what came in.
func (p *post) wantKept(t *testing.T, m impl.Mail) {
	t.Helper()
	want := plainMailNew(p.config)
	for i, x := range p.config.Pairs {
		if len(p.today[i]) > int(x.Rate) {
			t.Fatalf("%d words came in for pair %d in one epoch", len(p.today[i]), i)
		}
		want.Boxes[i] = boxOf(p.today[i], p.before[i], p.notes[i]...)
	}
	wantMailOut(t, "the mail", p.config, impl.MailOut{Mail: m}, impl.MailOut{Mail: want})
	p.wantRead(t, m)
}

// send tries to release a word, and returns the mail afterwards.
func (p *post) send(t *testing.T, m impl.Mail, x impl.Pair, word int64) impl.Mail {
	t.Helper()
	code, at := int64(impl.OK), plainPairAt(p.config, x.From, x.To)
	switch {
	case at < 0:
		code = impl.ErrLabel
	case len(p.today[at]) == int(p.config.Pairs[at].Rate):
		code = impl.ErrRange
	case len(p.notes[at]) == 12:
		code = impl.ErrFull
	}
	got := impl.MailSend(p.config, m, x.From, x.To, word, p.now)
	if code != impl.OK || got.Code != impl.OK {
		wantMailOut(t, "MailSend", p.config, got, impl.MailOut{Code: code})
		return m
	}
	p.today[at], p.notes[at] = append(p.today[at], word), append(p.notes[at], note(p.now, word))
	return got.Mail
}

// lay tries to lay a word, and returns the mail afterwards.
func (p *post) lay(t *testing.T, m impl.Mail, at int64, word int64) impl.Mail {
	t.Helper()
	code := int64(impl.OK)
	switch {
	case at < 0 || at >= int64(len(p.config.Pairs)):
		code = impl.ErrNone
	case len(p.today[at]) == int(p.config.Pairs[at].Rate):
		code = impl.ErrRange
	}
	got := impl.MailLay(p.config, m, at, word)
	if code != impl.OK || got.Code != impl.OK {
		wantMailOut(t, "MailLay", p.config, got, impl.MailOut{Code: code})
		return m
	}
	p.today[at] = append(p.today[at], word)
	return got.Mail
}

// tick delivers what came in, some time later.
func (p *post) tick(t *testing.T, m impl.Mail, later int64) impl.Mail {
	t.Helper()
	p.now, p.before, p.today = p.now+later, p.today, make([][]int64, len(p.today))
	return wantDelivered(t, p.config, m)
}

// mixedEnds are those of a pair more often than not, sometimes the other way round.
func mixedEnds(r *rand.Rand, c impl.Config) impl.Pair {
	all := allLabels()
	x := pair(all[r.IntN(32)], all[r.IntN(32)], 0)
	if len(c.Pairs) > 0 && r.IntN(8) > 0 {
		x = c.Pairs[r.IntN(len(c.Pairs))]
	}
	if r.IntN(8) == 0 {
		x.From, x.To = x.To, x.From
	}
	return x
}

// TestDeliveredWords is promise 29 over whole executions: when a word is read, by whom, in which order and how many there are, and what stays recorded.
func TestDeliveredWords(t *testing.T) {
	r := rand.New(rand.NewPCG(29, 6))
	full := 0
	for range 250 {
		p := newPost(mailConfig(r))
		m := impl.MailNew(p.config)
		p.wantKept(t, m)
		for range 80 {
			switch r.IntN(8) {
			case 0, 1:
				m = p.tick(t, m, r.Int64N(3))
			case 2:
				m = p.lay(t, m, r.Int64N(6)-1, mixedWord(r))
			default:
				m = p.send(t, m, mixedEnds(r, p.config), mixedWord(r))
			}
			p.wantKept(t, m)
		}
		for _, log := range p.notes {
			full += btoi(len(log) == 12)
		}
	}
	if full < 50 {
		t.Errorf("only %d logs are full", full)
	}
}

// TestDeliveredAtFullRate releases as much as there is room for until the logs are full: what is laid still comes.
func TestDeliveredAtFullRate(t *testing.T) {
	for _, c := range []impl.Config{onePair(1), onePair(2), onePair(3), plainConfig(), crossPairs(), fullConfig()} {
		p := newPost(c)
		m := impl.MailNew(c)
		for epoch := range int64(14) {
			for i, x := range c.Pairs {
				for n := range x.Rate + 1 {
					m = p.send(t, m, x, 100*epoch+10*int64(i)+n)
					p.wantKept(t, m)
				}
				m = p.lay(t, m, int64(i), -epoch)
				p.wantKept(t, m)
			}
			m = p.tick(t, m, 1)
			p.wantKept(t, m)
		}
		for i, b := range m.Boxes {
			if len(b.Log) != 12 || b.Log[0] != note(0, 10*int64(i)) || !slices.Equal(b.Here, []int64{-13}) {
				t.Errorf("after 14 epochs the box of pair %d is %+v", i, b)
			}
		}
	}
}

// TestDeliveredOnce follows one word of each pair, among others that come before and after it.
func TestDeliveredOnce(t *testing.T) {
	for _, c := range mailConfigs() {
		for i, x := range c.Pairs {
			for _, laid := range []bool{false, true} {
				m := impl.MailNew(c)
				if laid {
					m = wantLaid(t, impl.OK, c, m, int64(i), 7)
				} else {
					m = wantSentOver(t, impl.OK, c, m, i, 7, 3)
				}
				// Nobody reads it before the epoch, nor behind the next one.
				wantReaders(t, c, m, i, nil)
				m = wantDelivered(t, c, m)
				wantReaders(t, c, m, i, []int64{7})
				for n := range x.Rate {
					m = wantLaid(t, impl.OK, c, m, int64(i), n)
				}
				wantReaders(t, c, m, i, []int64{7})
				m = wantDelivered(t, c, m)
				wantReaders(t, c, m, i, []int64{0, 1, 2}[:x.Rate])
				if kept := m.Boxes[i].Log; len(kept) != btoi(!laid) || !laid && kept[0] != note(3, 7) {
					t.Errorf("the notes of pair %d are %+v", i, kept)
				}
			}
		}
	}
}

// wantReaders looks at what is read of one pair, where all others have nothing to be read.
func wantReaders(t *testing.T, c impl.Config, m impl.Mail, at int, words []int64) {
	t.Helper()
	for _, a := range allLabels() {
		want := ""
		for i, x := range c.Pairs {
			switch {
			case !plainBelow(x.To, a):
			case i == at:
				want += numText(int64(i), int64(len(words))) + numText(words...)
			default:
				want += numText(int64(i), 0)
			}
		}
		wantMailView(t, want, c, m, a)
	}
}

// TestMailHidesOtherBoxes changes what a label may not read: it reads the same as before.
func TestMailHidesOtherBoxes(t *testing.T) {
	r := rand.New(rand.NewPCG(29, 7))
	hidden := 0
	for range 1500 {
		c := mailConfig(r)
		m, other := mixedMail(r, c, 9), mixedMail(r, c, 9)
		for _, a := range allLabels() {
			read, audited := cloneMail(other), cloneMail(other)
			for i, x := range c.Pairs {
				if plainBelow(x.To, a) {
					read.Boxes[i].Here = m.Boxes[i].Here
				} else {
					hidden += btoi(!slices.Equal(m.Boxes[i].Here, other.Boxes[i].Here))
				}
				if plainBelow(x.From, a) {
					audited.Boxes[i].Log = m.Boxes[i].Log
				}
			}
			if impl.MailView(c, m, a) != impl.MailView(c, read, a) {
				t.Fatalf("%+v reads what is in a box of another label", a)
			}
			if impl.MailAudit(c, m, a) != impl.MailAudit(c, audited, a) {
				t.Fatalf("%+v reads notes of another label", a)
			}
		}
	}
	if hidden < 10000 {
		t.Errorf("only %d boxes are hidden and different", hidden)
	}
}
