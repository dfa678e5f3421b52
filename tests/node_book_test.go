package tests

import (
	"math/rand/v2"
	"testing"

	"loop.example/g00658/impl"
)

// wantBook compares BookPut with the document.
func wantBook(t *testing.T, code int64, l []impl.Node, n int64, x impl.Span, now int64) {
	t.Helper()
	want := plainBookPut(l, n, x, now)
	if want.Code != code {
		t.Fatalf("the model gives %d for node %d of %+v, %v at %d, not %d", want.Code, n, few(l), x, now, code)
	}
	wantNewNodes(t, "BookPut", impl.BookPut(l, n, x, now), want)
}

// wantBookAmong puts x beside reservations on a node between two others, at time 0, and expects those that are given.
func wantBookAmong(t *testing.T, books []impl.Span, x impl.Span, want []impl.Span) {
	t.Helper()
	l := []impl.Node{node(impl.NdUp, 5, 6), {State: impl.NdUp, Books: books}, node(impl.NdDrains)}
	after := cloneNodes(l)
	after[1].Books = want
	wantNewNodes(t, "BookPut", impl.BookPut(l, 1, x, 0), impl.NodesOut{Nodes: after})
}

func TestBookPutPlaces(t *testing.T) {
	books := spans(5, 8, 12, 15)
	wantBookAmong(t, nil, span(1, 40), spans(1, 40))
	wantBookAmong(t, []impl.Span{}, span(3, 4), spans(3, 4))
	wantBookAmong(t, books, span(1, 4), spans(1, 4, 5, 8, 12, 15))
	wantBookAmong(t, books, span(1, 5), spans(1, 5, 5, 8, 12, 15))
	wantBookAmong(t, books, span(9, 11), spans(5, 8, 9, 11, 12, 15))
	wantBookAmong(t, books, span(8, 11), spans(5, 8, 8, 11, 12, 15))
	wantBookAmong(t, books, span(9, 12), spans(5, 8, 9, 12, 12, 15))
	wantBookAmong(t, books, span(8, 12), spans(5, 8, 8, 12, 12, 15))
	wantBookAmong(t, books, span(15, 16), spans(5, 8, 12, 15, 15, 16))
	wantBookAmong(t, books, span(20, 40), spans(5, 8, 12, 15, 20, 40))
}

func TestBookPutOverlaps(t *testing.T) {
	l := sameNodes(2)
	l[1].Books = spans(5, 8, 12, 15)
	for _, x := range spans(5, 8, 12, 15, 4, 6, 1, 6, 7, 8, 7, 9, 7, 12, 11, 13, 8, 13, 14, 16, 14, 40, 6, 7, 5, 6, 13, 14, 4, 9, 1, 40, 5, 15, 6, 14, 11, 16, 4, 16) {
		wantBook(t, impl.ErrThere, l, 1, x, 0)
		// On another node there is nothing to overlap.
		wantBook(t, impl.OK, l, 0, x, 0)
	}
	got := impl.BookPut(l, 0, span(5, 8), 2)
	wantNewNodes(t, "BookPut", got, impl.NodesOut{Nodes: []impl.Node{node(impl.NdUp, 5, 8), node(impl.NdUp, 5, 8, 12, 15)}})
	wantBook(t, impl.ErrThere, got.Nodes, 0, span(7, 9), 2)
	wantBook(t, impl.ErrThere, got.Nodes, 0, span(5, 8), 2)
}

// TestBookPutOnEveryState has nodes whose state does not keep them from being reserved.
func TestBookPutOnEveryState(t *testing.T) {
	for state := int64(1); state <= 3; state++ {
		l := []impl.Node{node(state), node(state, 5, 8)}
		wantBook(t, impl.OK, l, 0, span(5, 8), 0)
		wantBook(t, impl.OK, l, 1, span(8, 9), 0)
		wantBook(t, impl.ErrThere, l, 1, span(7, 9), 0)
	}
}

func TestBookPutRange(t *testing.T) {
	l := sameNodes(1)
	for _, now := range []int64{0, 1, 2, 39, 40, 5000, impl.MaxTime - 101, impl.MaxTime - 100} {
		wantBook(t, impl.ErrRange, l, 0, span(now, now+1), now)
		wantBook(t, impl.ErrRange, l, 0, span(now, now+40), now)
		wantBook(t, impl.OK, l, 0, span(now+1, now+2), now)
		wantBook(t, impl.OK, l, 0, span(now+1, now+40), now)
		wantBook(t, impl.OK, l, 0, span(now+39, now+40), now)
		wantBook(t, impl.ErrRange, l, 0, span(now+1, now+41), now)
		wantBook(t, impl.ErrRange, l, 0, span(now+40, now+41), now)
		wantBook(t, impl.ErrRange, l, 0, span(now+41, now+42), now)
		wantBook(t, impl.ErrRange, l, 0, span(now+1, impl.MaxTime), now)
		wantBook(t, impl.ErrRange, l, 0, span(0, impl.MaxTime), now)
		if now > 0 {
			wantBook(t, impl.ErrRange, l, 0, span(now-1, now), now)
			wantBook(t, impl.ErrRange, l, 0, span(now-1, now+1), now)
			wantBook(t, impl.ErrRange, l, 0, span(0, 1), now)
		}
	}
	wantBook(t, impl.ErrRange, l, 0, span(2, 4), 2)
	wantBook(t, impl.ErrRange, l, 0, span(5, 43), 2)
	wantBook(t, impl.OK, l, 0, span(5, 42), 2)
}

func TestBookPutCountsBooks(t *testing.T) {
	// The four reservations are 5 to 6, 9 to 10, 13 to 14 and 17 to 18.
	l := sameNodes(1)
	for i, from := range []int64{9, 17, 5, 13} {
		got := impl.BookPut(l, 0, span(from, from+1), 0)
		wantBook(t, impl.OK, l, 0, span(from, from+1), 0)
		l = got.Nodes
		if len(l) != 1 || len(l[0].Books) != i+1 {
			t.Fatalf("after %d reservations: %+v", i+1, l)
		}
	}
	for _, x := range spans(1, 2, 4, 5, 6, 7, 7, 8, 10, 13, 14, 17, 18, 19, 39, 40) {
		wantBook(t, impl.ErrFull, l, 0, x, 0)
	}
	for _, x := range spans(5, 6, 4, 6, 9, 12, 12, 14, 17, 18, 17, 20, 1, 40) {
		wantBook(t, impl.ErrThere, l, 0, x, 0)
	}
	for _, x := range spans(0, 1, 0, 40, 17, 41, 39, 41, 41, 42) {
		wantBook(t, impl.ErrRange, l, 0, x, 0)
	}
	// Others may still be reserved.
	l = append(l, node(impl.NdUp, 5, 6, 9, 10, 13, 14))
	wantBook(t, impl.OK, l, 1, span(17, 18), 0)
	wantBook(t, impl.ErrFull, l, 0, span(1, 2), 0)
}

func TestBookPutOfWrongArguments(t *testing.T) {
	for _, n := range []int64{-1, 0, 2, 3} {
		for _, x := range wrongSpans() {
			wantBook(t, impl.ErrForm, threeNodes(), n, x, 0)
			wantBook(t, impl.ErrForm, threeNodes(), n, x, 5)
		}
		for _, now := range append(wrongNums(), -41, -1, impl.MaxTime-99, impl.MaxTime-1, impl.MaxTime) {
			// One of the numbers that are wrong elsewhere is a current time.
			if now == 256 {
				continue
			}
			wantBook(t, impl.ErrForm, threeNodes(), n, span(20, 21), now)
			wantBook(t, impl.ErrForm, threeNodes(), n, span(impl.MaxTime-60, impl.MaxTime-59), now)
			wantBook(t, impl.ErrForm, threeNodes(), n, span(0, impl.MaxTime), now)
		}
	}
}

func TestBookPutOfNoNode(t *testing.T) {
	for size := 1; size <= 6; size++ {
		last := int64(size) - 1
		for _, n := range append(wrongNums(), -2, -1, last+1, last+2) {
			for _, x := range spans(5, 8, 0, 1, 1, 41, 9, 10) {
				wantBook(t, impl.ErrNone, sameNodes(size, 5, 8), n, x, 0)
			}
		}
		wantBook(t, impl.OK, sameNodes(size, 5, 8), 0, span(9, 10), 0)
		wantBook(t, impl.OK, sameNodes(size, 5, 8), last, span(9, 10), 0)
	}
}

// TestBookPutErrorsInOrder also has what comes later in the order beside each error.
func TestBookPutErrorsInOrder(t *testing.T) {
	args := spans(5, 8, 3, 4, 0, 1, 6, 7, 8, 5)
	for _, l := range tooManyNodes() {
		for _, n := range []int64{-1, 0, impl.MaxList, 3 * impl.MaxList} {
			for _, x := range args {
				wantBook(t, impl.ErrSize, l, n, x, 0)
				wantBook(t, impl.ErrSize, l, n, x, -1)
			}
		}
	}
	for _, l := range wrongNodes() {
		for _, n := range []int64{-1, 0, 1, 7, impl.MaxList} {
			for _, x := range args {
				wantBook(t, impl.ErrForm, l, n, x, 0)
				wantBook(t, impl.ErrForm, l, n, x, -1)
			}
		}
	}
	l := []impl.Node{node(impl.NdUp, 5, 8, 10, 12, 38, 45), node(impl.NdUp, 0, 2, 5, 8, 10, 12, 38, 45)}
	for _, x := range spans(0, 6, 5, 8, 39, 41, 38, 45, 5, 41) {
		wantBook(t, impl.ErrNone, l, 2, x, 7)
		if x.From <= 4 || x.To > 44 {
			wantBook(t, impl.ErrRange, l, 0, x, 4)
			wantBook(t, impl.ErrRange, l, 1, x, 4)
		} else {
			wantBook(t, impl.ErrThere, l, 0, x, 4)
			wantBook(t, impl.ErrThere, l, 1, x, 4)
		}
	}
	wantBook(t, impl.ErrRange, l, 1, span(2, 4), 4)
	wantBook(t, impl.ErrFull, l, 1, span(8, 10), 4)
	wantBook(t, impl.OK, l, 0, span(8, 10), 4)
}

// TestBookPutOfAllShortLists tries everything between two times that are not far from each other.
func TestBookPutOfAllShortLists(t *testing.T) {
	small := smallSpans(-1, 7)
	for _, books := range smallLists(0, 6) {
		l := []impl.Node{{State: impl.NdUp, Books: books}}
		for _, x := range small {
			for now := int64(-1); now <= 2; now++ {
				wantNewNodes(t, "BookPut", impl.BookPut(l, 0, x, now), plainBookPut(l, 0, x, now))
			}
		}
	}
}

func TestBookPutOfMixedNodes(t *testing.T) {
	r := rand.New(rand.NewPCG(14, 3))
	count := map[int64]int{}
	for range 20000 {
		now := int64(r.IntN(20))
		l := mixedNodeList(r, now)
		if r.IntN(5) == 0 {
			l = spoilNodes(r, l)
		}
		from := now + int64(r.IntN(45)) - 2
		x := span(from, from+int64(r.IntN(7)))
		n := int64(r.IntN(len(l)+2)) - 1
		code := plainBookPut(l, n, x, now).Code
		count[code]++
		wantBook(t, code, l, n, x, now)
	}
	for _, code := range []int64{impl.OK, impl.ErrForm, impl.ErrNone, impl.ErrRange, impl.ErrThere, impl.ErrFull} {
		if count[code] < 500 {
			t.Errorf("the codes are too much alike: %v", count)
		}
	}
}
