package tests

import (
	"math"
	"slices"
	"testing"

	"loop.example/g00658/impl"
)

func span(from int64, to int64) impl.Span {
	return impl.Span{From: from, To: to}
}

// spans makes a list of the given ends: the first one begins a span, the next one ends it, and so on.
func spans(ends ...int64) []impl.Span {
	var l []impl.Span
	for pair := range slices.Chunk(ends, 2) {
		l = append(l, span(pair[0], pair[1]))
	}
	return l
}

// comb has n spans of length 1 with gaps of length 1: 0 to 1, 2 to 3, and so on.
func comb(n int) []impl.Span {
	var l []impl.Span
	for i := range int64(n) {
		l = append(l, span(2*i, 2*i+1))
	}
	return l
}

// wrongSpans lists spans that are reversed, empty, or beyond the times.
func wrongSpans() []impl.Span {
	far := []int64{math.MinInt64, math.MinInt64 + 1, -1, impl.MaxTime + 1, 1 << 32, math.MaxInt64}
	wrong := spans(5, 5, 8, 5, 0, 0, 1, 0, impl.MaxTime, impl.MaxTime, impl.MaxTime, 0, impl.MaxTime, impl.MaxTime-1)
	for _, n := range far {
		wrong = append(wrong, span(n, n), span(0, n), span(5, n), span(n, 5), span(n, impl.MaxTime))
	}
	return append(wrong, span(math.MinInt64, math.MaxInt64), span(math.MaxInt64, math.MinInt64), span(impl.MaxTime, impl.MaxTime+1))
}

// wrongLists lists a list for each way in which one is invalid.
func wrongLists() [][]impl.Span {
	wrong := [][]impl.Span{
		spans(1, 3, 2, 4), spans(1, 3, 1, 3), spans(1, 9, 3, 5), spans(3, 5, 1, 9), spans(5, 8, 1, 3),
		spans(1, 2, 5, 8, 3, 4), spans(1, 3, 5, 8, 7, 9), spans(3, 5, 1, 3), comb(21), comb(22), comb(impl.MaxList),
	}
	for _, s := range wrongSpans() {
		wrong = append(wrong, []impl.Span{s}, append(spans(1, 2), s), append([]impl.Span{s}, span(impl.MaxTime-1, impl.MaxTime)))
	}
	return wrong
}

// plainRight is what the document says of a span.
func plainRight(s impl.Span) bool {
	return s.From >= 0 && s.From <= impl.MaxTime && s.To > s.From && s.To <= impl.MaxTime
}

func plainListRight(l []impl.Span) bool {
	for i, s := range l {
		if !plainRight(s) || i > 0 && s.From < l[i-1].To {
			return false
		}
	}
	return len(l) <= 20
}

// plainFree looks at each step of x, which is valid and short, as the list is.
func plainFree(l []impl.Span, x impl.Span) bool {
	for at := x.From; at < x.To; at++ {
		for _, s := range l {
			if s.From <= at && at < s.To {
				return false
			}
		}
	}
	return true
}

// smallLists lists all valid lists of spans between two times.
func smallLists(from int64, to int64) [][]impl.Span {
	all := [][]impl.Span{nil}
	for begin := from; begin < to; begin++ {
		for end := begin + 1; end <= to; end++ {
			for _, rest := range smallLists(end, to) {
				all = append(all, append(spans(begin, end), rest...))
			}
		}
	}
	return all
}

// smallSpans lists all spans with both ends between two times, valid or not.
func smallSpans(from int64, to int64) []impl.Span {
	var all []impl.Span
	for begin := from; begin <= to; begin++ {
		for end := from; end <= to; end++ {
			all = append(all, span(begin, end))
		}
	}
	return all
}

func wantRight(t *testing.T, want bool, l []impl.Span) {
	t.Helper()
	if got := impl.SpansRight(l); got != want {
		t.Errorf("SpansRight of %d spans, %v = %v", len(l), l[:min(len(l), 8)], got)
	}
}

func wantFree(t *testing.T, want bool, l []impl.Span, x impl.Span) {
	t.Helper()
	if got := impl.IsFree(l, x); got != want {
		t.Errorf("IsFree(%d spans, %v, %v) = %v", len(l), l[:min(len(l), 8)], x, got)
	}
}

func wantPut(t *testing.T, want []impl.Span, l []impl.Span, x impl.Span) {
	t.Helper()
	if got := impl.SpanPut(l, x); !slices.Equal(got, want) {
		t.Errorf("SpanPut(%d spans, %v, %v) = %v, want %v", len(l), l[:min(len(l), 8)], x, got, want)
	}
}

func TestSpansRight(t *testing.T) {
	wantRight(t, true, nil)
	wantRight(t, true, []impl.Span{})
	for _, l := range smallLists(0, 6) {
		wantRight(t, true, l)
	}
	for _, l := range wrongLists() {
		wantRight(t, false, l)
	}
	wantRight(t, true, spans(0, 1))
	wantRight(t, true, spans(0, impl.MaxTime))
	wantRight(t, true, spans(impl.MaxTime-1, impl.MaxTime))
	wantRight(t, true, spans(0, 1, impl.MaxTime-1, impl.MaxTime))
	wantRight(t, true, spans(1, 3, 3, 5, 5, 8))
	wantRight(t, false, spans(1, 4, 3, 5))
}

func TestSpansRightOfFewSpans(t *testing.T) {
	all := smallSpans(-1, 3)
	for _, a := range all {
		wantRight(t, plainRight(a), []impl.Span{a})
		for _, b := range all {
			for _, c := range all {
				l := []impl.Span{a, b, c}
				wantRight(t, plainListRight(l[:2]), l[:2])
				wantRight(t, plainListRight(l), l)
			}
		}
	}
}

func TestSpansRightLengths(t *testing.T) {
	for n := range 25 {
		wantRight(t, n <= 20, comb(n))
	}
	for _, n := range []int{impl.MaxList - 1, impl.MaxList, impl.MaxList + 1, 3 * impl.MaxList} {
		wantRight(t, false, comb(n))
	}
	for at := range 20 {
		l := comb(20)
		l[at] = span(2*int64(at), 2*int64(at))
		wantRight(t, false, l)
	}
	for at := range 19 {
		l := comb(20)
		l[at].To = l[at+1].From
		wantRight(t, true, l)
		l[at].To++
		wantRight(t, false, l)
	}
}

func TestIsFree(t *testing.T) {
	l := spans(1, 3, 5, 8)
	for _, x := range spans(0, 1, 3, 4, 3, 5, 4, 5, 8, 9, 8, impl.MaxTime, impl.MaxTime-1, impl.MaxTime) {
		wantFree(t, true, l, x)
	}
	for _, x := range spans(0, 2, 1, 2, 2, 3, 1, 3, 2, 5, 3, 6, 4, 6, 4, 9, 5, 8, 6, 7, 7, 9, 0, 9, 0, impl.MaxTime) {
		wantFree(t, false, l, x)
	}
	for _, x := range spans(0, 1, 0, impl.MaxTime, impl.MaxTime-1, impl.MaxTime) {
		wantFree(t, true, nil, x)
		wantFree(t, true, []impl.Span{}, x)
		wantFree(t, false, spans(0, impl.MaxTime), x)
	}
	wantFree(t, false, spans(0, 1), span(0, 1))
	wantFree(t, true, spans(0, 1), span(1, impl.MaxTime))
	wantFree(t, true, spans(impl.MaxTime-1, impl.MaxTime), span(0, impl.MaxTime-1))
	wantFree(t, false, spans(impl.MaxTime-1, impl.MaxTime), span(0, impl.MaxTime))
}

func TestIsFreeOfWrongArguments(t *testing.T) {
	for _, l := range wrongLists() {
		wantFree(t, false, l, span(100, 101))
		wantFree(t, false, l, span(900, 910))
	}
	wantFree(t, false, comb(impl.MaxList+1), span(900, 910))
	for _, x := range wrongSpans() {
		wantFree(t, false, nil, x)
		wantFree(t, false, spans(1, 3, 6, 8), x)
	}
}

func TestIsFreeInALongList(t *testing.T) {
	l := comb(20)
	for _, x := range smallSpans(0, 42) {
		if plainRight(x) {
			wantFree(t, plainFree(l, x), l, x)
		}
	}
	wantFree(t, false, comb(21), span(900, 910))
}

// TestSpanPutOfAllShortLists is promise 4: what has been inserted is no longer free, and nothing else has changed.
func TestSpanPutOfAllShortLists(t *testing.T) {
	small := smallSpans(-1, 7)
	for _, l := range smallLists(0, 6) {
		for _, x := range small {
			free := plainRight(x) && plainFree(l, x)
			wantFree(t, free, l, x)
			if !free {
				wantPut(t, l, l, x)
				continue
			}
			wantPutIn(t, impl.SpanPut(l, x), l, x)
		}
	}
}

// wantPutIn checks a list in which x has been inserted.
func wantPutIn(t *testing.T, got []impl.Span, l []impl.Span, x impl.Span) {
	t.Helper()
	at := slices.Index(got, x)
	if at < 0 || !plainListRight(got) || !slices.Equal(slices.Delete(slices.Clone(got), at, at+1), l) {
		t.Fatalf("SpanPut(%v, %v) = %v", l, x, got)
	}
	wantFree(t, false, got, x)
	wantPut(t, got, got, x)
	for _, other := range smallSpans(0, 7) {
		if plainRight(other) {
			wantFree(t, plainFree(l, other) && plainFree([]impl.Span{x}, other), got, other)
		}
	}
}

func TestSpanPut(t *testing.T) {
	l := impl.SpanPut(nil, span(5, 8))
	if !slices.Equal(l, spans(5, 8)) {
		t.Errorf("SpanPut into none = %v", l)
	}
	wantPut(t, spans(1, 3, 5, 8), l, span(1, 3))
	l = spans(1, 3, 5, 8)
	wantPut(t, spans(0, 1, 1, 3, 5, 8), l, span(0, 1))
	wantPut(t, spans(1, 3, 3, 5, 5, 8), l, span(3, 5))
	wantPut(t, spans(1, 3, 4, 5, 5, 8), l, span(4, 5))
	wantPut(t, spans(1, 3, 5, 8, 8, 9), l, span(8, 9))
	wantPut(t, spans(1, 3, 5, 8, impl.MaxTime-1, impl.MaxTime), l, span(impl.MaxTime-1, impl.MaxTime))
	wantPut(t, l, l, span(3, 6))
	wantPut(t, l, l, span(2, 5))
	wantPut(t, l, l, span(7, 9))
	wantPut(t, l, l, span(0, 2))
	wantPut(t, spans(0, impl.MaxTime), nil, span(0, impl.MaxTime))
	wantPut(t, spans(0, impl.MaxTime), spans(0, impl.MaxTime), span(3, 4))
}

func TestSpanPutOfWrongArguments(t *testing.T) {
	for _, l := range wrongLists() {
		wantPut(t, l, l, span(100, 101))
		wantPut(t, l, l, span(900, 910))
		wantPut(t, l, l, span(8, 5))
	}
	for _, x := range wrongSpans() {
		wantPut(t, nil, nil, x)
		wantPut(t, spans(1, 3, 6, 8), spans(1, 3, 6, 8), x)
		wantPut(t, comb(20), comb(20), x)
	}
}

func TestSpanPutLengths(t *testing.T) {
	var l []impl.Span
	for i := range int64(20) {
		// The spans come from the middle to both ends, so that most are inserted before others.
		at := 50 - 2*i
		if i%2 == 1 {
			at = 50 + 2*i
		}
		l = impl.SpanPut(l, span(at, at+1))
		if int64(len(l)) != i+1 || !impl.SpansRight(l) || impl.IsFree(l, span(at, at+1)) {
			t.Fatalf("after %d spans: %v", i+1, l)
		}
	}
	wantPut(t, append(comb(19), span(900, 910)), comb(19), span(900, 910))
	for _, x := range spans(900, 910, 1, 2, 0, 1, 39, 40) {
		wantPut(t, comb(20), comb(20), x)
		wantPut(t, comb(21), comb(21), x)
		wantPut(t, comb(impl.MaxList), comb(impl.MaxList), x)
		wantPut(t, nil, comb(impl.MaxList+1), x)
		wantPut(t, nil, comb(3*impl.MaxList), x)
	}
	wantPut(t, nil, comb(impl.MaxList+1), span(8, 5))
}

// TestSpanPutSharesNoMemory gives the lists room behind their ends, which an insertion must not use.
func TestSpanPutSharesNoMemory(t *testing.T) {
	mark := span(-7, -7)
	for _, l := range [][]impl.Span{nil, spans(10, 12), spans(10, 12, 15, 18), comb(19), comb(20), comb(21), comb(impl.MaxList), spans(5, 8, 1, 3)} {
		for _, x := range spans(8, 9, 9, 10, 12, 13, 12, 15, 18, 19, 900, 910, 11, 16, 5, 5) {
			room := append(slices.Clone(l), mark, mark, mark)
			before := slices.Clone(room)
			first := impl.SpanPut(room[:len(l)], x)
			impl.IsFree(room[:len(l)], x)
			impl.SpansRight(room[:len(l)])
			second := impl.SpanPut(room[:len(l)], x)
			kept := slices.Clone(second)
			for i := range first[:cap(first)] {
				first[:cap(first)][i] = span(-8, -8)
			}
			if !slices.Equal(room, before) || !slices.Equal(second, kept) {
				t.Errorf("SpanPut(%d spans, %v) shares memory", len(l), x)
			}
		}
	}
}
