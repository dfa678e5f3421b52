package tests

import (
	"math"
	"math/rand/v2"
	"slices"
	"testing"

	"loop.example/g00658/impl"
)

// fewOfMail shortens a mail that is printed.
func fewOfMail(m impl.Mail) impl.Mail {
	m = cloneMail(impl.Mail{Boxes: m.Boxes[:min(len(m.Boxes), 5)]})
	for i, b := range m.Boxes {
		m.Boxes[i] = impl.Box{Next: b.Next[:min(len(b.Next), 5)], Here: b.Here[:min(len(b.Here), 5)], Log: b.Log[:min(len(b.Log), 14)]}
	}
	return m
}

func wantMail(t *testing.T, want bool, c impl.Config, m impl.Mail) {
	t.Helper()
	if got := impl.MailRight(c, m); got != want || got != plainMailRight(c, m) {
		t.Errorf("MailRight of %d pairs, %d boxes, %+v = %v, want %v", len(c.Pairs), len(m.Boxes), fewOfMail(m), got, want)
	}
}

// wantLogRight looks at a log in each box of a configuration.
func wantLogRight(t *testing.T, want bool, c impl.Config, log ...impl.Note) {
	t.Helper()
	for i := range c.Pairs {
		wantMail(t, want, c, withBox(plainMailNew(c), i, func(b *impl.Box) { b.Log = log }))
	}
}

func TestMailRightCountsBoxes(t *testing.T) {
	for _, c := range mailConfigs() {
		for n := range 8 {
			wantMail(t, n == len(c.Pairs), c, mailOf(make([]impl.Box, n)...))
		}
		for _, n := range []int{impl.MaxList - 1, impl.MaxList, impl.MaxList + 1} {
			wantMail(t, false, c, mailOf(make([]impl.Box, n)...))
		}
	}
	wantMail(t, true, wide(1), impl.Mail{})
	wantMail(t, true, wide(1), mailOf([]impl.Box{}...))
	wantMail(t, false, onePair(1), mailOf([]impl.Box{}...))
}

// TestMailRightCountsWords has the rate of each pair, and those of the others, which are different.
func TestMailRightCountsWords(t *testing.T) {
	for _, c := range mailConfigs() {
		for i, p := range c.Pairs {
			for n := range int64(6) {
				wantMail(t, n <= p.Rate, c, withBox(plainMailNew(c), i, func(b *impl.Box) { b.Next = upTo(n) }))
				wantMail(t, n <= p.Rate, c, withBox(plainMailNew(c), i, func(b *impl.Box) { b.Here = upTo(n) }))
				wantMail(t, n <= p.Rate, c, withBox(fullMail(c, 1), i, func(b *impl.Box) { b.Next = upTo(n) }))
				wantMail(t, n <= p.Rate, c, withBox(fullMail(c, 1), i, func(b *impl.Box) { b.Here = upTo(n) }))
			}
			for _, n := range []int64{impl.MaxList, impl.MaxList + 1} {
				wantMail(t, false, c, withBox(plainMailNew(c), i, func(b *impl.Box) { b.Next = upTo(n) }))
				wantMail(t, false, c, withBox(plainMailNew(c), i, func(b *impl.Box) { b.Here = upTo(n) }))
			}
		}
		wantMail(t, true, c, fullMail(c, 0))
	}
}

func TestMailRightOfWords(t *testing.T) {
	c := onePair(3)
	words := []int64{math.MinInt64, math.MinInt64 + 1, -(1 << 32), -1, 0, 1, 1 << 32, math.MaxInt64 - 1, math.MaxInt64}
	for _, word := range words {
		wantMail(t, true, c, mailOf(boxOf([]int64{word, 0, word}, nil)))
		wantMail(t, true, c, mailOf(boxOf(nil, []int64{word, word, 0})))
		wantMail(t, true, c, mailOf(boxOf(nil, nil, note(0, word), note(5, word))))
	}
	for _, empty := range [][]int64{nil, {}} {
		for _, log := range [][]impl.Note{nil, {}} {
			wantMail(t, true, c, mailOf(impl.Box{Next: empty, Here: empty, Log: log}))
			wantMail(t, true, c, mailOf(impl.Box{Next: empty, Here: upTo(3), Log: log}))
			wantMail(t, true, c, mailOf(impl.Box{Next: upTo(3), Here: empty, Log: log}))
		}
	}
	// The notes need not be of words that wait, or that are here.
	wantMail(t, true, c, mailOf(boxOf(upTo(3), upTo(3))))
	wantMail(t, true, c, mailOf(boxOf(nil, nil, sameNotes(12, 7)...)))
}

func TestMailRightOfLogs(t *testing.T) {
	for _, c := range []impl.Config{onePair(1), plainConfig(), fullConfig()} {
		for n := range 15 {
			wantLogRight(t, n <= 12, c, sameNotes(n, 5)...)
			wantLogRight(t, n <= 12, c, notesAt(upTo(int64(n))...)...)
		}
		for _, times := range [][]int64{{0}, {1}, {999899}, {999900}, {0, 0}, {0, 999900}, {999900, 999900}, {0, 0, 1, 1, 999900}, {4, 5, 5}, {5, 5, 6}, {5, 6}} {
			wantLogRight(t, true, c, notesAt(times...)...)
		}
		for _, log := range wrongLogs() {
			wantLogRight(t, false, c, log...)
		}
	}
	// Each box has times of its own: a log may end before the one ahead of it begins.
	wantMail(t, true, plainConfig(), mailOf(boxOf(nil, nil, notesAt(9, 999900)...), boxOf(nil, nil, notesAt(0, 1)...), boxOf(nil, nil, notesAt(0)...)))
}

func TestMailRightOfWrongArguments(t *testing.T) {
	for _, c := range wrongConfigs() {
		wantMail(t, false, c, mailOf(make([]impl.Box, len(c.Pairs))...))
		wantMail(t, false, c, impl.Mail{})
		wantMail(t, false, c, mailOf(make([]impl.Box, 1)...))
	}
	for _, c := range mailConfigs() {
		for _, m := range wrongMails(c) {
			wantMail(t, false, c, m)
		}
	}
}

func TestMailRightOfMixedMails(t *testing.T) {
	r := rand.New(rand.NewPCG(29, 1))
	count := map[bool]int{}
	for range 4000 {
		c := mailConfig(r)
		m := mixedMail(r, c, []int64{0, 9, 999900}[r.IntN(3)])
		wantMail(t, true, c, m)
		spoilMail(r, &m)
		right := plainMailRight(c, m)
		count[right]++
		wantMail(t, right, c, m)
	}
	if count[true] < 500 || count[false] < 500 {
		t.Errorf("the spoilt mails are too much alike: %v", count)
	}
}

func TestMailNew(t *testing.T) {
	r := rand.New(rand.NewPCG(29, 2))
	configs := mailConfigs()
	for range 300 {
		configs = append(configs, mixedConfig(r))
	}
	for _, c := range configs {
		m := impl.MailNew(c)
		if !sameMail(m, plainMailNew(c)) || !impl.MailRight(c, m) {
			t.Errorf("MailNew of %d pairs = %+v", len(c.Pairs), m)
		}
	}
	for n, c := range map[int]impl.Config{0: wide(8), 1: onePair(3), 3: plainConfig(), 4: crossPairs()} {
		empty := slices.Repeat([]impl.Box{{}}, n)
		if m := impl.MailNew(c); !sameMail(m, mailOf(empty...)) {
			t.Errorf("MailNew of %d pairs = %+v", n, m)
		}
	}
}

func TestMailNewOfWrongConfigs(t *testing.T) {
	for _, c := range wrongConfigs() {
		if m := impl.MailNew(c); len(m.Boxes) != 0 {
			t.Errorf("MailNew of a wrong configuration = %+v", fewOfMail(m))
		}
	}
}
