package tests

import (
	"math/rand/v2"
	"slices"
	"testing"

	"loop.example/g00658/impl"
)

// wantCut compares BookCut with the document.
func wantCut(t *testing.T, code int64, l []impl.Node, n int64, from int64) {
	t.Helper()
	want := plainBookCut(l, n, from)
	if want.Code != code {
		t.Fatalf("the model gives %d for node %d of %+v and %d, not %d", want.Code, n, few(l), from, code)
	}
	wantNewNodes(t, "BookCut", impl.BookCut(l, n, from), want)
}

// wantPassed compares BooksPass with the document and, if that is given, with the reservations that are left on the first node.
func wantPassed(t *testing.T, l []impl.Node, now int64, left ...int64) {
	t.Helper()
	got, want := impl.BooksPass(l, now), plainBooksPass(l, now)
	if !equalNodes(got, want) {
		t.Errorf("BooksPass(%+v, %d) = %+v, want %+v", few(l), now, got, want)
	}
	if len(left) > 0 && !slices.Equal(got[0].Books, spans(left...)) {
		t.Errorf("BooksPass(%+v, %d) leaves %v, want %v", few(l), now, got[0].Books, left)
	}
	if len(got) > 0 {
		wantNodesRight(t, true, got)
	}
}

func TestBookCut(t *testing.T) {
	for _, c := range []struct {
		from int64
		left []impl.Span
	}{
		{5, spans(8, 9, 12, 15, 30, 31)}, {8, spans(5, 8, 12, 15, 30, 31)}, {12, spans(5, 8, 8, 9, 30, 31)}, {30, spans(5, 8, 8, 9, 12, 15)},
	} {
		for state := int64(1); state <= 3; state++ {
			l := []impl.Node{node(impl.NdUp, 5, 6), node(state, 5, 8, 8, 9, 12, 15, 30, 31), node(impl.NdDown)}
			want := cloneNodes(l)
			want[1].Books = c.left
			wantNewNodes(t, "BookCut", impl.BookCut(l, 1, c.from), impl.NodesOut{Nodes: want})
		}
	}
	wantNewNodes(t, "BookCut of the only one", impl.BookCut(sameNodes(2, 0, 1), 1, 0), impl.NodesOut{Nodes: []impl.Node{node(impl.NdUp, 0, 1), node(impl.NdUp)}})
}

func TestBookCutAt(t *testing.T) {
	l := []impl.Node{node(impl.NdUp, 5, 8, 8, 9, 12, 15), node(impl.NdUp), node(impl.NdUp, 6, 7)}
	for from := int64(-1); from <= 16; from++ {
		if from == 5 || from == 8 || from == 12 {
			wantCut(t, impl.OK, l, 0, from)
		} else {
			wantCut(t, impl.ErrNone, l, 0, from)
		}
		wantCut(t, impl.ErrNone, l, 1, from)
	}
	for _, from := range edgeNums() {
		wantCut(t, impl.ErrNone, l, 1, from)
		wantCut(t, impl.ErrNone, sameNodes(1), 0, from)
		if from != 5 && from != 8 && from != 12 {
			wantCut(t, impl.ErrNone, l, 0, from)
		}
	}
	last := int64(impl.MaxTime - 1)
	wantCut(t, impl.OK, sameNodes(1, 0, 1, last, last+1), 0, 0)
	wantCut(t, impl.OK, sameNodes(1, 0, 1, last, last+1), 0, last)
	wantCut(t, impl.ErrNone, sameNodes(1, 0, 1, last, last+1), 0, last+1)
}

func TestBookCutOfNoNode(t *testing.T) {
	for size := 1; size <= 6; size++ {
		last := int64(size) - 1
		for _, n := range append(wrongNums(), -2, -1, last+1, last+2) {
			wantCut(t, impl.ErrNone, sameNodes(size, 5, 8), n, 5)
			wantCut(t, impl.ErrNone, sameNodes(size, 5, 8), n, 6)
		}
		wantCut(t, impl.OK, sameNodes(size, 5, 8), 0, 5)
		wantCut(t, impl.OK, sameNodes(size, 5, 8), last, 5)
	}
}

func TestBookCutErrorsInOrder(t *testing.T) {
	for _, from := range []int64{-1, 0, 5, 6} {
		for _, l := range tooManyNodes() {
			for _, n := range []int64{-1, 0, impl.MaxList, 3 * impl.MaxList} {
				wantCut(t, impl.ErrSize, l, n, from)
			}
		}
		for _, l := range wrongNodes() {
			for _, n := range []int64{-1, 0, 1, 7, impl.MaxList} {
				wantCut(t, impl.ErrForm, l, n, from)
			}
		}
	}
}

func TestBookCutOfMixedNodes(t *testing.T) {
	r := rand.New(rand.NewPCG(14, 4))
	count := map[int64]int{}
	for range 10000 {
		now := int64(r.IntN(20))
		l := mixedNodeList(r, now)
		if r.IntN(5) == 0 {
			l = spoilNodes(r, l)
		}
		n, from := int64(r.IntN(len(l)+2))-1, now+int64(r.IntN(25))-5
		code := plainBookCut(l, n, from).Code
		count[code]++
		wantCut(t, code, l, n, from)
	}
	if len(count) != 3 || count[impl.OK] < 500 || count[impl.ErrForm] < 500 || count[impl.ErrNone] < 500 {
		t.Errorf("the codes are too much alike: %v", count)
	}
}

func TestBooksPass(t *testing.T) {
	for state := int64(1); state <= 3; state++ {
		l := []impl.Node{node(state, 2, 4, 4, 5, 9, 12, 20, 30), node(impl.NdUp, 3, 9), node(impl.NdDrains)}
		for _, now := range []int64{-1, 0, 1, 2, 3} {
			wantPassed(t, l, now, 2, 4, 4, 5, 9, 12, 20, 30)
		}
		wantPassed(t, l, 4, 4, 5, 9, 12, 20, 30)
		for _, now := range []int64{5, 6, 9, 10, 11} {
			wantPassed(t, l, now, 9, 12, 20, 30)
		}
		for _, now := range []int64{12, 13, 20, 29} {
			wantPassed(t, l, now, 20, 30)
		}
		for _, now := range []int64{30, 31, 5000} {
			if got := impl.BooksPass(l, now); !equalNodes(got, []impl.Node{node(state), node(impl.NdUp), node(impl.NdDrains)}) {
				t.Errorf("BooksPass at %d = %+v", now, got)
			}
		}
	}
}

// TestBooksPassAtAnyTime has times that are no current ones: there is only one thing to do with them.
func TestBooksPassAtAnyTime(t *testing.T) {
	last := int64(impl.MaxTime - 1)
	l := []impl.Node{node(impl.NdUp, 0, 1, last, last+1), node(impl.NdDown, 0, last+1), node(impl.NdDrains)}
	for _, now := range append(edgeNums(), -41, -1, 0, 1, 2, impl.MaxTime-100, impl.MaxTime-99, last, last+1, last+2) {
		wantPassed(t, l, now)
		if now <= 0 && !equalNodes(impl.BooksPass(l, now), l) {
			t.Errorf("BooksPass at %d removes a reservation", now)
		}
	}
	wantPassed(t, l, 0, 0, 1, last, last+1)
	wantPassed(t, l, 1, last, last+1)
	wantPassed(t, l, last, last, last+1)
	if got := impl.BooksPass(l, impl.MaxTime); len(got) != 3 || len(got[0].Books) != 0 || len(got[1].Books) != 0 {
		t.Errorf("BooksPass at the end of time = %+v", got)
	}
}

func TestBooksPassOfWrongNodes(t *testing.T) {
	for _, l := range slices.Concat(wrongNodes(), tooManyNodes()) {
		for _, now := range []int64{-1, 0, 6, impl.MaxTime, impl.MaxTime + 1} {
			if got := impl.BooksPass(l, now); len(got) != 0 {
				t.Errorf("BooksPass(%+v, %d) = %+v", few(l), now, got)
			}
		}
	}
}

func TestBooksPassOfMixedNodes(t *testing.T) {
	r := rand.New(rand.NewPCG(14, 5))
	for range 5000 {
		l := mixedNodeList(r, 10)
		wantPassed(t, l, int64(r.IntN(50)))
		wantPassed(t, spoilNodes(r, cloneNodes(l)), int64(r.IntN(50)))
		// Passing once does what passing at each time up to then does.
		step := l
		for now := int64(8); now <= 30; now++ {
			step = impl.BooksPass(step, now)
		}
		if !equalNodes(step, impl.BooksPass(l, 30)) {
			t.Errorf("BooksPass of %+v at each time up to 30 leaves %+v", l, step)
		}
	}
}
