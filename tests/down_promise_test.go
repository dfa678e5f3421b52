package tests

import (
	"math/rand/v2"
	"slices"
	"testing"

	"loop.example/g00658/impl"
)

// ledger is kept beside a desk: its channels, and every word that was accepted, from the first one on.
type ledger struct {
	pairs []impl.Letter
	sent  []impl.Letter
	now   int64
}

// today lists what was accepted since the last step of time.
func (l *ledger) today() []impl.Letter {
	var out []impl.Letter
	for _, x := range l.sent {
		if x.At == l.now {
			out = append(out, x)
		}
	}
	return out
}

// wantKept compares a desk with the ledger: every word is recorded as it was accepted, and read by those only who may.
func (l *ledger) wantKept(t *testing.T, d impl.Desk) {
	t.Helper()
	today := l.today()
	wantStep(t, "the desk", impl.DeskStep{Desk: d}, impl.DeskStep{Desk: impl.Desk{Pairs: l.pairs, Box: today, Audit: l.sent, Used: int64(len(today)), Now: l.now}})
	if len(today) > impl.Rate {
		t.Errorf("%d words were released at time %d", len(today), l.now)
	}
	for _, a := range allLabels() {
		var words []int64
		for _, x := range today {
			if plainBelow(x.To, a) {
				words = append(words, x.Word)
			}
		}
		wantReads(t, d, a, words...)
	}
}

// send tries to release a word, and returns the desk afterwards.
func (l *ledger) send(t *testing.T, d impl.Desk, x impl.Letter) impl.Desk {
	t.Helper()
	code := int64(impl.OK)
	switch {
	case x.Word < 0 || x.Word > 1000000:
		code = impl.ErrForm
	case !slices.Contains(l.pairs, channel(x.From, x.To)):
		code = impl.ErrLabel
	case len(l.today()) == impl.Rate:
		code = impl.ErrRange
	case len(l.sent) == 20:
		code = impl.ErrFull
	}
	got := impl.LetDown(d, x.From, x.To, x.Word)
	if got.Code != code {
		t.Errorf("LetDown of %+v: code %d, want %d", x, got.Code, code)
	}
	if got.Code != impl.OK {
		wantStep(t, "a refusal", got, impl.DeskStep{Code: code})
		return d
	}
	l.sent = append(l.sent, x)
	return got.Desk
}

// mixedLetter is over a channel more often than not, and its word is mostly valid.
func mixedLetter(r *rand.Rand, pairs []impl.Letter) impl.Letter {
	all := allLabels()
	x := channel(all[r.IntN(32)], all[r.IntN(32)])
	if len(pairs) > 0 && r.IntN(4) > 0 {
		x = pairs[r.IntN(len(pairs))]
	}
	if r.IntN(8) == 0 {
		x.From, x.To = x.To, x.From
	}
	x.Word = []int64{0, 1, 7, 8, 500000, 1000000, -1, 1000001}[r.IntN(8)]
	return x
}

// TestReleasedWords is promise 9 over whole executions: where a word goes, how many there are at a time, and what is recorded for good.
func TestReleasedWords(t *testing.T) {
	r := rand.New(rand.NewPCG(9, 4))
	for range 300 {
		l := &ledger{pairs: mixedChannels(r)}
		d := impl.Desk{Pairs: slices.Clone(l.pairs)}
		for range 60 {
			if r.IntN(4) == 0 {
				next := impl.NextTime(d)
				wantStep(t, "NextTime", next, plainNextTime(d))
				d = next.Desk
				l.now++
			} else {
				x := mixedLetter(r, l.pairs)
				x.At = l.now
				d = l.send(t, d, x)
			}
			l.wantKept(t, d)
		}
	}
}

// TestRecordsStay fills the audit log at the full rate: the desk refuses more from then on, and keeps what it has.
func TestRecordsStay(t *testing.T) {
	l := &ledger{pairs: fourChannels()}
	d := impl.Desk{Pairs: fourChannels()}
	for range 15 {
		for n := range 4 {
			d = l.send(t, d, sentOver(n, l.now, 10*l.now+int64(n)))
			l.wantKept(t, d)
		}
		d = impl.NextTime(d).Desk
		l.now++
		l.wantKept(t, d)
	}
	if len(d.Audit) != 20 || d.Audit[0] != sentOver(0, 0, 0) || d.Audit[19] != sentOver(1, 9, 91) {
		t.Errorf("the audit log is %+v", d.Audit)
	}
}
