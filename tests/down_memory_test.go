package tests

import (
	"math/rand/v2"
	"reflect"
	"slices"
	"testing"

	"loop.example/g00658/impl"
)

// roomyDesk is a copy of a desk, all slices of which, the empty ones too, have room behind their elements.
func roomyDesk(d impl.Desk) impl.Desk {
	for _, l := range []*[]impl.Letter{&d.Pairs, &d.Box, &d.Audit} {
		*l = append(make([]impl.Letter, 0, len(*l)+2), *l...)
	}
	return d
}

// letterLists are the slices of a desk, reaching to the end of their room.
func letterLists(d impl.Desk) [][]impl.Letter {
	return [][]impl.Letter{d.Pairs[:cap(d.Pairs)], d.Box[:cap(d.Box)], d.Audit[:cap(d.Audit)]}
}

func cloneLists(lists [][]impl.Letter) [][]impl.Letter {
	var copied [][]impl.Letter
	for _, l := range lists {
		copied = append(copied, slices.Clone(l))
	}
	return copied
}

// markLetters writes a different word into each place of a desk's slices, also behind their ends, and reports whether each keeps its own.
func markLetters(d impl.Desk) bool {
	next := int64(1000)
	for _, l := range letterLists(d) {
		for i := range l {
			l[i] = letter(label(next, next), label(next, next), next, next)
			next++
		}
	}
	least := int64(1000)
	for _, l := range letterLists(d) {
		for _, x := range l {
			if x.Word != least {
				return false
			}
			least++
		}
	}
	return true
}

// wantDeskApart calls a function twice with the same desk and writes into the first result: neither the second one nor the desk may change.
func wantDeskApart(t *testing.T, what string, d impl.Desk, call func(d impl.Desk) impl.Desk) {
	t.Helper()
	arg := roomyDesk(d)
	before := cloneLists(letterLists(arg))
	first, second := call(arg), call(arg)
	kept := cloneDesk(second)
	if !reflect.DeepEqual(before, cloneLists(letterLists(arg))) {
		t.Errorf("%s changes its argument", what)
	}
	if !markLetters(first) {
		t.Errorf("%s: parts of the result share memory", what)
	}
	if !sameDesk(second, kept) {
		t.Errorf("%s: two results share memory", what)
	}
	if !reflect.DeepEqual(before, cloneLists(letterLists(arg))) {
		t.Errorf("%s: the result shares memory with the argument", what)
	}
}

// wantQueriesApart is the same for the functions that return no desk.
func wantQueriesApart(t *testing.T, d impl.Desk, a impl.Label) {
	t.Helper()
	arg := roomyDesk(d)
	before := cloneLists(letterLists(arg))
	first, second := impl.Reads(arg, a), impl.Reads(arg, a)
	for i := range first[:cap(first)] {
		first[:cap(first)][i] = -5
	}
	if !slices.Equal(second, plainReads(d, a)) {
		t.Error("Reads: two results share memory")
	}
	if impl.BoxRight(arg) != plainBoxRight(d) {
		t.Error("another result for a desk with room behind its slices")
	}
	if !reflect.DeepEqual(before, cloneLists(letterLists(arg))) {
		t.Error("BoxRight or Reads changes its argument")
	}
}

func wantAllApart(t *testing.T, d impl.Desk) {
	t.Helper()
	for _, p := range append(fourChannels()[:1], d.Pairs[:min(len(d.Pairs), 5)]...) {
		wantDeskApart(t, "LetDown", d, func(d impl.Desk) impl.Desk { return impl.LetDown(d, p.From, p.To, 7).Desk })
		wantDeskApart(t, "LetDown of a wrong word", d, func(d impl.Desk) impl.Desk { return impl.LetDown(d, p.From, p.To, -1).Desk })
		wantQueriesApart(t, d, p.To)
	}
	wantDeskApart(t, "NextTime", d, func(d impl.Desk) impl.Desk { return impl.NextTime(d).Desk })
	wantQueriesApart(t, d, label(3, 7))
	wantQueriesApart(t, d, label(4, 0))
}

func TestDesksShareNoMemory(t *testing.T) {
	r := rand.New(rand.NewPCG(9, 5))
	for range 800 {
		wantAllApart(t, mixedDesk(r))
	}
	for _, d := range []impl.Desk{{}, deskOf(0), deskOf(5, sentAt(5)...), deskOf(5, sentAt(5, 5)...), fullBox(), fullAudit()} {
		wantAllApart(t, d)
	}
}

// TestWrongDesksAreKept looks at arguments that are refused.
func TestWrongDesksAreKept(t *testing.T) {
	for _, d := range wrongDesks() {
		wantAllApart(t, d)
	}
}
