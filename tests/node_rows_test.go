package tests

import (
	"math/rand/v2"
	"slices"
	"testing"

	"loop.example/g00658/impl"
)

func equalRows(a [][]impl.Span, b [][]impl.Span) bool {
	return slices.EqualFunc(a, b, slices.Equal[[]impl.Span])
}

// wantRows compares RowsNew and RowsHard with what is given, and with the document.
func wantRows(t *testing.T, l []impl.Node, starts [][]impl.Span, runs [][]impl.Span) {
	t.Helper()
	if got := impl.RowsNew(l); !equalRows(got, starts) || !equalRows(got, plainRowsNew(l)) {
		t.Errorf("RowsNew(%+v) = %v, want %v", few(l), got, starts)
	}
	if got := impl.RowsHard(l); !equalRows(got, runs) || !equalRows(got, plainRowsHard(l)) {
		t.Errorf("RowsHard(%+v) = %v, want %v", few(l), got, runs)
	}
}

func TestRowsOfStates(t *testing.T) {
	always := spans(0, impl.MaxTime)
	for _, books := range [][]impl.Span{nil, {}, spans(5, 8), spans(5, 8, 8, 9, 12, 15, 30, 31), spans(0, impl.MaxTime), spans(0, 1, impl.MaxTime-1, impl.MaxTime)} {
		up, drains, down := impl.Node{State: impl.NdUp, Books: books}, impl.Node{State: impl.NdDrains, Books: books}, impl.Node{State: impl.NdDown, Books: books}
		wantRows(t, []impl.Node{up}, [][]impl.Span{books}, [][]impl.Span{books})
		wantRows(t, []impl.Node{drains}, [][]impl.Span{always}, [][]impl.Span{books})
		wantRows(t, []impl.Node{down}, [][]impl.Span{always}, [][]impl.Span{always})
		wantRows(t, []impl.Node{down, up, drains}, [][]impl.Span{always, books, always}, [][]impl.Span{always, books, books})
		wantRows(t, []impl.Node{drains, drains, up, up, down, down}, [][]impl.Span{always, always, books, books, always, always}, [][]impl.Span{books, books, books, books, always, always})
	}
}

func TestRowsOfExample(t *testing.T) {
	l := []impl.Node{node(impl.NdUp, 5, 8), node(impl.NdDrains)}
	wantRows(t, l, [][]impl.Span{spans(5, 8), spans(0, 1000000)}, [][]impl.Span{spans(5, 8), nil})
	wantRows(t, threeNodes(), [][]impl.Span{spans(5, 8, 12, 13), spans(0, 1000000), spans(0, 1000000)}, [][]impl.Span{spans(5, 8, 12, 13), nil, spans(0, 1000000)})
}

func TestRowsOfWrongNodes(t *testing.T) {
	for _, l := range slices.Concat(wrongNodes(), tooManyNodes()) {
		wantRows(t, l, nil, nil)
	}
}

func TestRowsOfMixedNodes(t *testing.T) {
	r := rand.New(rand.NewPCG(14, 6))
	for range 5000 {
		l := mixedNodeList(r, int64(r.IntN(20)))
		wantRows(t, l, plainRowsNew(l), plainRowsHard(l))
		// The planner takes them as rows of its own.
		for _, row := range slices.Concat(impl.RowsNew(l), impl.RowsHard(l)) {
			wantRight(t, true, row)
		}
		l = spoilNodes(r, l)
		wantRows(t, l, plainRowsNew(l), plainRowsHard(l))
	}
}

// keeper writes down beside a list of nodes what has been done with them: the state of each node, and who has reserved which of its steps.
type keeper struct {
	states []int64
	booked []map[int64]int64
	now    int64
}

func newKeeper(n int) *keeper {
	k := &keeper{}
	for range n {
		k.states = append(k.states, impl.NdUp)
		k.booked = append(k.booked, map[int64]int64{})
	}
	return k
}

// wantKept is promise 14: it looks at all steps near the current one.
func (k *keeper) wantKept(t *testing.T, l []impl.Node) {
	t.Helper()
	starts, runs := impl.RowsNew(l), impl.RowsHard(l)
	if len(starts) != len(k.states) || len(runs) != len(k.states) {
		t.Fatalf("%d and %d rows of %d nodes", len(starts), len(runs), len(k.states))
	}
	for n, state := range k.states {
		for at := k.now; at <= k.now+45; at++ {
			_, taken := k.booked[n][at]
			mayStart, mayRun := state == impl.NdUp && !taken, state != impl.NdDown && !taken
			if impl.IsFree(starts[n], span(at, at+1)) != mayStart || impl.IsFree(runs[n], span(at, at+1)) != mayRun {
				t.Fatalf("at %d, node %d in state %d at step %d, reserved %v: rows %v and %v", k.now, n, state, at, taken, starts[n], runs[n])
			}
		}
	}
}

// put makes a reservation if there is room for it, and returns the list that follows.
func (k *keeper) put(t *testing.T, l []impl.Node, n int64, x impl.Span) []impl.Node {
	t.Helper()
	got := impl.BookPut(l, n, x, k.now)
	if got.Code != impl.OK {
		wantNewNodes(t, "BookPut", got, plainBookPut(l, n, x, k.now))
		return l
	}
	for at := x.From; at < x.To; at++ {
		if _, taken := k.booked[n][at]; taken {
			t.Fatalf("%v has been reserved twice on node %d", x, n)
		}
		k.booked[n][at] = x.From
	}
	return got.Nodes
}

// cut removes the reservation of a step, whose begin has been written down. The reservations of steps that have passed may be gone.
func (k *keeper) cut(t *testing.T, l []impl.Node, n int64, at int64) []impl.Node {
	t.Helper()
	from, taken := k.booked[n][at]
	if !taken || at < k.now {
		return l
	}
	got := impl.BookCut(l, n, from)
	if got.Code != impl.OK {
		t.Fatalf("BookCut of the reservation from %d on node %d = %d", from, n, got.Code)
	}
	for step, of := range k.booked[n] {
		if of == from {
			delete(k.booked[n], step)
		}
	}
	return got.Nodes
}

func (k *keeper) set(t *testing.T, l []impl.Node, n int64, state int64) []impl.Node {
	t.Helper()
	got := impl.NodeSet(l, n, state)
	if k.states[n] == state {
		wantNewNodes(t, "NodeSet", got, impl.NodesOut{Code: impl.ErrState})
		return l
	}
	k.states[n] = state
	return got.Nodes
}

// pass goes to the next time. The steps before it are never looked at again.
func (k *keeper) pass(t *testing.T, l []impl.Node) []impl.Node {
	t.Helper()
	k.now++
	left := impl.BooksPass(l, k.now)
	for n, d := range left {
		for _, x := range d.Books {
			if x.To <= k.now {
				t.Fatalf("at %d node %d still has %v", k.now, n, x)
			}
		}
	}
	return left
}

func TestNodesAreAvailableAsTheirStatesAndBooksSay(t *testing.T) {
	r := rand.New(rand.NewPCG(14, 7))
	for range 60 {
		size := 1 + r.IntN(6)
		k, l := newKeeper(size), impl.NodesNew(int64(size))
		k.now = int64(r.IntN(3)) * 5000
		for range 150 {
			n := int64(r.IntN(size))
			from := k.now + int64(r.IntN(44)) - 1
			switch r.IntN(5) {
			case 0, 1:
				l = k.put(t, l, n, span(from, from+1+int64(r.IntN(8))))
			case 2:
				l = k.cut(t, l, n, from)
			case 3:
				l = k.set(t, l, n, 1+int64(r.IntN(3)))
			case 4:
				l = k.pass(t, l)
			}
			k.wantKept(t, l)
		}
	}
}

// TestReservedNodeIsLeftFree looks at the nodes with the search of chapter 4.
func TestReservedNodeIsLeftFree(t *testing.T) {
	l := impl.NodesNew(2)
	free := func(x impl.Span, want ...int64) {
		t.Helper()
		wantNodes(t, want, impl.RowsNew(l), int64(max(1, len(want))), x)
		if got := impl.FitNodes(impl.RowsNew(l), int64(len(want))+1, x); len(got) != 0 {
			t.Errorf("%v is also free on %v", x, got)
		}
	}
	free(span(1, 40), 0, 1)
	l = impl.BookPut(l, 0, span(5, 8), 2).Nodes
	free(span(5, 8), 1)
	free(span(7, 8), 1)
	free(span(4, 6), 1)
	free(span(3, 5), 0, 1)
	free(span(8, 9), 0, 1)
	kept := l
	l = impl.BookCut(l, 0, 5).Nodes
	free(span(5, 8), 0, 1)
	l = impl.BooksPass(kept, 7)
	free(span(7, 8), 1)
	l = impl.BooksPass(kept, 8)
	free(span(5, 8), 0, 1)
	l = impl.NodeSet(kept, 1, impl.NdDrains).Nodes
	free(span(5, 8))
	free(span(8, 9), 0)
	wantNodes(t, []int64{1}, impl.RowsHard(l), 1, span(5, 8))
	l = impl.NodeSet(l, 1, impl.NdDown).Nodes
	free(span(8, 9), 0)
	wantNodes(t, nil, impl.RowsHard(l), 1, span(5, 8))
	l = impl.NodeSet(l, 0, impl.NdDown).Nodes
	l = impl.BookCut(l, 0, 5).Nodes
	// A node that is down does not become available by losing its reservation, but by being up again.
	free(span(5, 8))
	l = impl.NodeSet(l, 0, impl.NdUp).Nodes
	free(span(5, 8), 0)
}
