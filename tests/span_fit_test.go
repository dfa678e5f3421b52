package tests

import (
	"math"
	"math/rand/v2"
	"slices"
	"testing"

	"loop.example/g00658/impl"
)

// plainNodes is what the document says of FitNodes, for valid arguments.
func plainNodes(rows [][]impl.Span, need int64, x impl.Span) []int64 {
	var nodes []int64
	for i, l := range rows {
		if plainFree(l, x) && int64(len(nodes)) < need {
			nodes = append(nodes, int64(i))
		}
	}
	if int64(len(nodes)) < need {
		return nil
	}
	return nodes
}

// plainFit is what the document says of FirstFit, for valid arguments.
func plainFit(rows [][]impl.Span, need int64, length int64, now int64) int64 {
	for at := now; at <= now+40; at++ {
		if plainNodes(rows, need, span(at, at+length)) != nil {
			return at
		}
	}
	return -1
}

// copies makes a list of n equal rows.
func copies(n int, l []impl.Span) [][]impl.Span {
	var rows [][]impl.Span
	for range n {
		rows = append(rows, slices.Clone(l))
	}
	return rows
}

// wrongRows lists rows that are too many, and rows of which one is not valid.
func wrongRows() [][][]impl.Span {
	wrong := [][][]impl.Span{copies(7, nil), copies(8, spans(1, 3)), copies(impl.MaxList, nil), copies(impl.MaxList+1, nil), copies(3*impl.MaxList, nil)}
	for at := range 6 {
		for _, l := range wrongLists() {
			rows := copies(6, spans(1, 3))
			rows[at] = l
			wrong = append(wrong, rows)
		}
	}
	return append(wrong, [][]impl.Span{comb(impl.MaxList + 1)}, [][]impl.Span{nil, comb(impl.MaxList + 1), nil})
}

// mixedRow makes a valid list of spans, most of them short, that begin soon behind a time.
func mixedRow(r *rand.Rand, now int64) []impl.Span {
	var l []impl.Span
	at := max(0, now-int64(r.IntN(8)))
	for range r.IntN(10) {
		from := at + int64(r.IntN(5))
		to := from + 1 + int64(r.IntN(8))
		l = append(l, span(from, to))
		at = to
	}
	return l
}

func wantFit(t *testing.T, want int64, rows [][]impl.Span, need int64, length int64, now int64) {
	t.Helper()
	if got := impl.FirstFit(rows, need, length, now); got != want {
		t.Errorf("FirstFit(%d rows, %v, %d, %d, %d) = %d, want %d", len(rows), rows[:min(len(rows), 6)], need, length, now, got, want)
	}
}

func wantNodes(t *testing.T, want []int64, rows [][]impl.Span, need int64, x impl.Span) {
	t.Helper()
	if got := impl.FitNodes(rows, need, x); !slices.Equal(got, want) {
		t.Errorf("FitNodes(%d rows, %v, %d, %v) = %v, want %v", len(rows), rows[:min(len(rows), 6)], need, x, got, want)
	}
}

func TestFirstFit(t *testing.T) {
	rows := [][]impl.Span{spans(1, 3, 5, 8), spans(0, 4)}
	wantFit(t, 3, rows, 1, 2, 0)
	wantFit(t, 4, rows, 2, 1, 0)
	wantFit(t, 8, rows, 2, 2, 0)
	wantFit(t, -1, rows, 3, 1, 0)
	wantFit(t, 0, rows, 1, 1, 0)
	wantFit(t, 4, rows, 1, 3, 0)
	wantFit(t, 4, rows, 1, 40, 0)
	wantFit(t, 8, rows, 2, 40, 0)
	wantFit(t, 5, rows, 1, 2, 5)
	wantFit(t, 4, rows, 2, 1, 4)
	wantFit(t, 8, rows, 2, 1, 5)
	wantFit(t, 8, rows, 2, 1, 8)
	wantFit(t, 30, rows, 2, 1, 30)
}

func TestFirstFitOfRows(t *testing.T) {
	for need := int64(1); need <= 6; need++ {
		wantFit(t, -1, nil, need, 1, 0)
		wantFit(t, -1, [][]impl.Span{}, need, 1, 0)
		for n := 1; n <= 6; n++ {
			want := int64(-1)
			if need <= int64(n) {
				want = 9
			}
			wantFit(t, want, copies(n, nil), need, 3, 9)
			wantFit(t, want, copies(n, spans(1, 9)), need, 3, 5)
		}
		for _, rows := range wrongRows() {
			wantFit(t, -1, rows, need, 1, 0)
			wantFit(t, -1, rows, need, 1, 5000)
		}
	}
	// The last of six rows counts as the others do.
	rows := append(copies(5, spans(0, impl.MaxTime)), spans(0, 7))
	wantFit(t, 7, rows, 1, 5, 0)
	wantFit(t, -1, rows, 2, 5, 0)
	// Two rows that are free one after the other are never free together.
	wantFit(t, -1, [][]impl.Span{spans(0, 5, 10, 100), spans(5, 100)}, 2, 1, 0)
	wantFit(t, 0, [][]impl.Span{spans(0, 5, 10, 100), spans(5, 100)}, 1, 5, 0)
}

func TestFirstFitLimits(t *testing.T) {
	rows := copies(6, spans(1, 3))
	for _, need := range []int64{math.MinInt64, -1, 0, 7, 8, 1 << 32, math.MaxInt64} {
		wantFit(t, -1, rows, need, 1, 0)
		wantFit(t, -1, nil, need, 1, 0)
	}
	for _, need := range []int64{1, 6} {
		wantFit(t, 0, rows, need, 1, 0)
		wantFit(t, 3, rows, need, 2, 0)
		wantFit(t, 3, rows, need, impl.Horizon, 0)
	}
	for _, length := range []int64{math.MinInt64, -1, 0, impl.Horizon + 1, impl.Horizon + 2, 1 << 32, math.MaxInt64 - 20, math.MaxInt64} {
		wantFit(t, -1, rows, 1, length, 0)
		wantFit(t, -1, rows, 1, length, 20)
	}
	for _, now := range []int64{math.MinInt64, -41, -1, impl.MaxTime - 99, impl.MaxTime - 1, impl.MaxTime, impl.MaxTime + 1, math.MaxInt64 - 20, math.MaxInt64} {
		wantFit(t, -1, rows, 1, 1, now)
		wantFit(t, -1, rows, 6, impl.Horizon, now)
	}
	last := int64(impl.MaxTime - 100)
	for _, length := range []int64{1, impl.Horizon} {
		wantFit(t, last, rows, 6, length, last)
		wantFit(t, last+1, copies(6, spans(0, last+1)), 6, length, last)
		wantFit(t, last+40, copies(6, spans(0, last+40)), 6, length, last)
		wantFit(t, -1, copies(6, spans(0, last+41)), 6, length, last)
	}
}

func TestFirstFitAtTheHorizon(t *testing.T) {
	for _, now := range []int64{0, 1, 77, impl.MaxTime - 100} {
		for _, length := range []int64{1, 2, impl.Horizon} {
			wantFit(t, now+40, copies(1, spans(now, now+40)), 1, length, now)
			wantFit(t, -1, copies(1, spans(now, now+41)), 1, length, now)
			wantFit(t, now+39, copies(2, spans(now, now+39)), 2, length, now)
			wantFit(t, -1, [][]impl.Span{spans(now, now+40), spans(now, now+41)}, 2, length, now)
			// A gap of the length is enough, whether it is the first or the last one; a smaller one is not.
			wantFit(t, now+40, copies(2, spans(now, now+40, now+40+length, impl.MaxTime)), 2, length, now)
			wantFit(t, -1, copies(2, spans(now, now+41-length, now+40, impl.MaxTime)), 2, length, now)
			wantFit(t, now, copies(2, spans(now+length, impl.MaxTime)), 2, length, now)
		}
	}
	wantFit(t, -1, copies(6, spans(0, impl.MaxTime)), 1, 1, 0)
	wantFit(t, 1, copies(6, comb(20)), 6, 1, 0)
	wantFit(t, 39, copies(6, comb(20)), 6, 2, 0)
	wantFit(t, -1, copies(6, comb(21)), 6, 2, 0)
}

// TestFirstFitFitsFirst is promise 4: the first fit fits, and no earlier time does.
func TestFirstFitFitsFirst(t *testing.T) {
	r := rand.New(rand.NewPCG(4, 20))
	found := 0
	for range 3000 {
		now := []int64{0, 3, 500, impl.MaxTime - 100}[r.IntN(4)]
		var rows [][]impl.Span
		for range r.IntN(7) {
			rows = append(rows, mixedRow(r, now))
		}
		need, length := int64(1+r.IntN(6)), int64(1+r.IntN(12))
		at := impl.FirstFit(rows, need, length, now)
		if at >= 0 {
			found++
		}
		wantFit(t, plainFit(rows, need, length, now), rows, need, length, now)
		for from := now; from <= now+40; from++ {
			x := span(from, from+length)
			wantNodes(t, plainNodes(rows, need, x), rows, need, x)
			if fits := len(impl.FitNodes(rows, need, x)) > 0; fits && (at < 0 || from < at) || !fits && from == at {
				t.Errorf("FirstFit(%v, %d, %d, %d) = %d, FitNodes at %d: %v", rows, need, length, now, at, from, fits)
			}
		}
	}
	if found < 500 || found > 2500 {
		t.Errorf("%d of 3000 have a fit", found)
	}
}

// TestFirstFitUntilNothingFits inserts each fit in its rows, until there is none.
func TestFirstFitUntilNothingFits(t *testing.T) {
	rows := [][]impl.Span{spans(2, 4), nil, spans(7, 20), spans(0, 1)}
	for {
		at := impl.FirstFit(rows, 2, 5, 0)
		wantFit(t, plainFit(rows, 2, 5, 0), rows, 2, 5, 0)
		if at < 0 {
			return
		}
		x := span(at, at+5)
		nodes := impl.FitNodes(rows, 2, x)
		if len(nodes) != 2 {
			t.Fatalf("a fit at %d on nodes %v of %v", at, nodes, rows)
		}
		for _, node := range nodes {
			rows[node] = impl.SpanPut(rows[node], x)
			wantRight(t, true, rows[node])
			if impl.IsFree(rows[node], x) {
				t.Fatalf("%v is still free in %v", x, rows[node])
			}
		}
	}
}

func TestFitNodes(t *testing.T) {
	rows := [][]impl.Span{spans(1, 3, 5, 8), spans(0, 4)}
	wantNodes(t, []int64{1}, rows, 1, span(4, 9))
	wantNodes(t, nil, rows, 2, span(4, 9))
	wantNodes(t, []int64{0, 1}, rows, 2, span(4, 5))
	wantNodes(t, []int64{0}, rows, 1, span(4, 5))
	wantNodes(t, []int64{0}, rows, 1, span(0, 1))
	wantNodes(t, []int64{0, 1}, rows, 2, span(8, impl.MaxTime))
	rows = [][]impl.Span{spans(3, 5), nil, spans(5, 9), spans(0, 4), comb(20), spans(0, 3)}
	x := span(3, 5)
	for need, want := range [][]int64{nil, {1}, {1, 2}, {1, 2, 5}, nil, nil, nil, nil} {
		wantNodes(t, want, rows, int64(need), x)
	}
	for need := int64(1); need <= 6; need++ {
		wantNodes(t, nil, nil, need, x)
		wantNodes(t, nil, [][]impl.Span{}, need, x)
		wantNodes(t, []int64{0, 1, 2, 3, 4, 5}[:need], copies(6, nil), need, span(0, impl.MaxTime))
		wantNodes(t, []int64{0, 1, 2, 3, 4, 5}[:need], copies(6, spans(0, impl.MaxTime-1)), need, span(impl.MaxTime-1, impl.MaxTime))
		wantNodes(t, nil, copies(int(need)-1, nil), need, span(0, 1))
	}
}

func TestFitNodesOfWrongArguments(t *testing.T) {
	rows := copies(6, spans(6, 8))
	for _, need := range []int64{math.MinInt64, -1, 0, 7, 8, 1 << 32, math.MaxInt64} {
		wantNodes(t, nil, rows, need, span(1, 2))
		wantNodes(t, nil, nil, need, span(1, 2))
	}
	for need := int64(1); need <= 6; need++ {
		for _, x := range wrongSpans() {
			wantNodes(t, nil, rows, need, x)
			wantNodes(t, nil, copies(6, nil), need, x)
		}
		for _, wrong := range wrongRows() {
			wantNodes(t, nil, wrong, need, span(4000, 4001))
			wantNodes(t, nil, wrong, need, span(100, 101))
		}
	}
}

func TestFitsKeepTheirRows(t *testing.T) {
	for _, rows := range append(wrongRows(), copies(6, spans(1, 3)), copies(2, comb(20)), copies(1, nil)) {
		var before [][]impl.Span
		for _, l := range rows {
			before = append(before, slices.Clone(l))
		}
		impl.FirstFit(rows, 2, 3, 0)
		first := impl.FitNodes(rows, 1, span(100, 101))
		second := impl.FitNodes(rows, 1, span(100, 101))
		kept := slices.Clone(second)
		for i := range first[:cap(first)] {
			first[:cap(first)][i] = -8
		}
		if !slices.EqualFunc(rows, before, slices.Equal[[]impl.Span]) || !slices.Equal(second, kept) {
			t.Errorf("the fits of %d rows changed them, or share memory", len(rows))
		}
	}
}
