package tests

import (
	"math"
	"math/rand/v2"
	"slices"

	"loop.example/g00658/impl"
)

// This file has what the document says of messages between labels, written down step by step, and the mails that it is tried on.

func mailOf(boxes ...impl.Box) impl.Mail {
	return impl.Mail{Boxes: boxes}
}

func boxOf(next []int64, here []int64, log ...impl.Note) impl.Box {
	return impl.Box{Next: next, Here: here, Log: log}
}

func note(at int64, word int64) impl.Note {
	return impl.Note{At: at, Word: word}
}

// notesAt makes notes at some times, the words of which are counted from 1 on.
func notesAt(times ...int64) []impl.Note {
	var log []impl.Note
	for i, at := range times {
		log = append(log, note(at, int64(i)+1))
	}
	return log
}

// sameNotes makes so many notes at one time.
func sameNotes(n int, at int64) []impl.Note {
	return notesAt(slices.Repeat([]int64{at}, n)...)
}

// upTo counts words from 1 on.
func upTo(n int64) []int64 {
	var words []int64
	for word := range n {
		words = append(words, word+1)
	}
	return words
}

func cloneMail(m impl.Mail) impl.Mail {
	m.Boxes = slices.Clone(m.Boxes)
	for i, b := range m.Boxes {
		m.Boxes[i] = impl.Box{Next: slices.Clone(b.Next), Here: slices.Clone(b.Here), Log: slices.Clone(b.Log)}
	}
	return m
}

// withBox returns a copy of a mail, one box of which has been changed.
func withBox(m impl.Mail, at int, change func(b *impl.Box)) impl.Mail {
	m = cloneMail(m)
	change(&m.Boxes[at])
	return m
}

// sameMail takes nil and an empty slice as equal.
func sameMail(a impl.Mail, b impl.Mail) bool {
	return slices.EqualFunc(a.Boxes, b.Boxes, func(x impl.Box, y impl.Box) bool {
		return slices.Equal(x.Next, y.Next) && slices.Equal(x.Here, y.Here) && slices.Equal(x.Log, y.Log)
	})
}

// plainMailRight has the times of the notes in a list of their own, which is the same when it is sorted.
func plainMailRight(c impl.Config, m impl.Mail) bool {
	if !plainConfigRight(c) || len(m.Boxes) != len(c.Pairs) {
		return false
	}
	for i, p := range c.Pairs {
		b := m.Boxes[i]
		if len(b.Next) > int(p.Rate) || len(b.Here) > int(p.Rate) || len(b.Log) > 12 {
			return false
		}
		var times []int64
		for _, n := range b.Log {
			times = append(times, n.At)
		}
		sorted := slices.Sorted(slices.Values(times))
		if !slices.Equal(times, sorted) {
			return false
		}
		if len(sorted) > 0 && (sorted[0] < 0 || sorted[len(sorted)-1] > 1000000-100) {
			return false
		}
	}
	return true
}

func plainMailNew(c impl.Config) impl.Mail {
	var m impl.Mail
	if plainConfigRight(c) {
		for range c.Pairs {
			m.Boxes = append(m.Boxes, impl.Box{})
		}
	}
	return m
}

func plainMailSend(c impl.Config, m impl.Mail, from impl.Label, to impl.Label, word int64, now int64) impl.MailOut {
	if !plainMailRight(c, m) || now < 0 || now > 1000000-100 {
		return impl.MailOut{Code: 1}
	}
	at := plainPairAt(c, from, to)
	if at == -1 {
		return impl.MailOut{Code: 11}
	}
	m = cloneMail(m)
	b := &m.Boxes[at]
	if slices.ContainsFunc(b.Log, func(n impl.Note) bool { return n.At > now }) {
		return impl.MailOut{Code: 1}
	}
	b.Next, b.Log = append(b.Next, word), append(b.Log, note(now, word))
	if len(b.Next) > int(c.Pairs[at].Rate) {
		return impl.MailOut{Code: 8}
	}
	if len(b.Log) > 12 {
		return impl.MailOut{Code: 9}
	}
	return impl.MailOut{Mail: m}
}

func plainMailLay(c impl.Config, m impl.Mail, at int64, word int64) impl.MailOut {
	if !plainMailRight(c, m) {
		return impl.MailOut{Code: 1}
	}
	if at < 0 || at >= int64(len(c.Pairs)) {
		return impl.MailOut{Code: 6}
	}
	m = cloneMail(m)
	m.Boxes[at].Next = append(m.Boxes[at].Next, word)
	if len(m.Boxes[at].Next) > int(c.Pairs[at].Rate) {
		return impl.MailOut{Code: 8}
	}
	return impl.MailOut{Mail: m}
}

func plainMailTick(c impl.Config, m impl.Mail) impl.MailOut {
	if !plainMailRight(c, m) {
		return impl.MailOut{Code: 1}
	}
	m = cloneMail(m)
	for i, b := range m.Boxes {
		m.Boxes[i] = boxOf(nil, b.Next, b.Log...)
	}
	return impl.MailOut{Mail: m}
}

func plainMailView(c impl.Config, m impl.Mail, a impl.Label) string {
	if !plainMailRight(c, m) || !plainLabelRight(a) {
		return ""
	}
	text := ""
	for i, p := range c.Pairs {
		if plainBelow(p.To, a) {
			here := m.Boxes[i].Here
			text += numText(int64(i), int64(len(here))) + numText(here...)
		}
	}
	return text
}

func plainMailAudit(c impl.Config, m impl.Mail, a impl.Label) string {
	if !plainMailRight(c, m) || !plainLabelRight(a) {
		return ""
	}
	text := ""
	for i, p := range c.Pairs {
		if plainBelow(p.From, a) {
			text += numText(int64(i), int64(len(m.Boxes[i].Log)))
			for _, n := range m.Boxes[i].Log {
				text += numText(n.At, n.Word)
			}
		}
	}
	return text
}

// onePair has a single pair, from 1: to 0:.
func onePair(rate int64) impl.Config {
	return impl.Config{Nodes: [][]impl.Label{{label(0, 0), label(1, 0)}}, Pairs: []impl.Pair{pair(label(1, 0), label(0, 0), rate)}, Half: 4}
}

// crossPairs has as many pairs as there may be, with all rates: two of them between the same labels, either way, two with the same sender and two with the same receiver.
func crossPairs() impl.Config {
	a, b, top := label(0, 1), label(0, 2), label(2, 3)
	return impl.Config{
		Nodes: [][]impl.Label{{a, top}, {b, top}},
		Pairs: []impl.Pair{pair(a, b, 1), pair(b, a, 2), pair(top, a, 3), pair(top, b, 1)},
		Half:  1,
	}
}

// mailConfigs have no pairs, one, three and four.
func mailConfigs() []impl.Config {
	return []impl.Config{wide(1), wide(8), onePair(1), onePair(2), onePair(3), plainConfig(), crossPairs(), fullConfig()}
}

// busyMail is a mail of plainConfig, the rates of which are 1, 2 and 3.
func busyMail() impl.Mail {
	return mailOf(
		boxOf([]int64{7}, nil, note(3, 7)),
		boxOf([]int64{-5}, []int64{4, 4}, note(0, 4), note(0, 4), note(9, -5)),
		boxOf(nil, []int64{math.MinInt64, 0, math.MaxInt64}, note(5, 0), note(8, math.MaxInt64)),
	)
}

// fullMail has as much of everything as there may be, but for what waits: so many words less than the rate.
func fullMail(c impl.Config, room int64) impl.Mail {
	var m impl.Mail
	for _, p := range c.Pairs {
		m.Boxes = append(m.Boxes, boxOf(upTo(max(p.Rate-room, 0)), upTo(p.Rate), sameNotes(12, 9)...))
	}
	return m
}

func mixedWord(r *rand.Rand) int64 {
	if r.IntN(4) == 0 {
		return []int64{math.MinInt64, math.MaxInt64, -1, 63, 64, -64, -65}[r.IntN(7)]
	}
	return r.Int64N(20) - 5
}

func mixedWords(r *rand.Rand, most int64) []int64 {
	var words []int64
	for range r.Int64N(most + 1) {
		words = append(words, mixedWord(r))
	}
	return words
}

// mixedMail makes a valid mail, the notes of which are at most at a given time.
func mixedMail(r *rand.Rand, c impl.Config, last int64) impl.Mail {
	var m impl.Mail
	for _, p := range c.Pairs {
		var log []impl.Note
		for range r.IntN(13) {
			log = append(log, note(r.Int64N(last+1), mixedWord(r)))
		}
		slices.SortStableFunc(log, func(a impl.Note, b impl.Note) int { return int(a.At - b.At) })
		if r.IntN(3) == 0 {
			log = append(log, sameNotes(12-len(log), last)...)
		}
		m.Boxes = append(m.Boxes, boxOf(mixedWords(r, p.Rate), mixedWords(r, p.Rate), log...))
	}
	return m
}

// mailConfig is one of those with many pairs, or any other.
func mailConfig(r *rand.Rand) impl.Config {
	if all := mailConfigs(); r.IntN(2) == 0 {
		return all[r.IntN(len(all))]
	}
	return mixedConfig(r)
}

// spoilMail changes one thing of a mail, which may stay valid.
func spoilMail(r *rand.Rand, m *impl.Mail) {
	if len(m.Boxes) == 0 || r.IntN(8) == 0 {
		m.Boxes = append(m.Boxes, impl.Box{})
		return
	}
	at := r.IntN(len(m.Boxes))
	b := &m.Boxes[at]
	switch r.IntN(6) {
	case 0:
		m.Boxes = slices.Delete(m.Boxes, at, at+1)
	case 1:
		b.Next = append(b.Next, mixedWord(r), mixedWord(r))
	case 2:
		b.Here = append(b.Here, mixedWord(r), mixedWord(r))
	case 3:
		b.Log = append(b.Log, note([]int64{0, 9, 999900, 999901}[r.IntN(4)], 1))
	case 4:
		if len(b.Log) > 0 {
			b.Log[r.IntN(len(b.Log))].At = r.Int64N(12) - 1
		}
	case 5:
		m.Boxes[at], m.Boxes[0] = m.Boxes[0], m.Boxes[at]
	}
}

// wrongLogs have too many notes, notes at times that are not current times, or a later note ahead of an earlier one.
func wrongLogs() [][]impl.Note {
	logs := [][]impl.Note{
		sameNotes(13, 5), sameNotes(14, 5), sameNotes(400, 5), sameNotes(401, 5), notesAt(0, 1, 2, 3, 4, 5, 6, 7, 8, 9, 10, 11, 12),
		notesAt(5, 4), notesAt(1, 0), notesAt(5, 5, 4), notesAt(4, 6, 5), notesAt(5, 4, 5), notesAt(0, 0, 1, 0, 1), notesAt(999900, 0), notesAt(999900, 999899),
		notesAt(1, 2, 3, 4, 5, 6, 7, 8, 9, 10, 12, 11), notesAt(2, 1, 3, 4, 5, 6, 7, 8, 9, 10, 11, 12),
	}
	for _, at := range wrongTimes() {
		logs = append(logs, notesAt(at), notesAt(at, at), notesAt(0, at), notesAt(at, 999900), notesAt(7, at, 9))
	}
	return logs
}

// wrongMails lists mails of a configuration that are wrong in one way each.
func wrongMails(c impl.Config) []impl.Mail {
	right := plainMailNew(c)
	wrong := []impl.Mail{mailOf(make([]impl.Box, len(c.Pairs)+1)...), mailOf(make([]impl.Box, 5)...), mailOf(make([]impl.Box, 401)...)}
	if len(c.Pairs) > 0 {
		wrong = append(wrong, impl.Mail{}, mailOf(right.Boxes[1:]...))
	}
	for i, p := range c.Pairs {
		for _, n := range []int64{p.Rate + 1, p.Rate + 2, 400, 401} {
			wrong = append(wrong, withBox(right, i, func(b *impl.Box) { b.Next = upTo(n) }), withBox(right, i, func(b *impl.Box) { b.Here = upTo(n) }))
		}
		for _, log := range wrongLogs() {
			wrong = append(wrong, withBox(right, i, func(b *impl.Box) { b.Log = log }))
		}
	}
	return wrong
}
