package tests

import (
	"math"
	"math/rand/v2"
	"slices"
	"testing"

	"loop.example/g00658/impl"
)

// few are the first nodes of a list that is too long to print.
func few(l []impl.Node) []impl.Node {
	return l[:min(len(l), 7)]
}

func wantNodesRight(t *testing.T, want bool, l []impl.Node) {
	t.Helper()
	if got := impl.NodesRight(l); got != want || got != plainNodesRight(l) {
		t.Errorf("NodesRight of %d nodes, %+v = %v", len(l), few(l), got)
	}
}

// wantBooksRight puts reservations into each place of a list, for each state.
func wantBooksRight(t *testing.T, want bool, books []impl.Span) {
	t.Helper()
	for state := int64(1); state <= 3; state++ {
		for at := range 3 {
			l := threeNodes()
			l[at] = impl.Node{State: state, Books: books}
			wantNodesRight(t, want, l)
			wantNodesRight(t, want, l[at:at+1])
		}
	}
}

// wantNewNodes compares a result of any of the functions that change a node.
func wantNewNodes(t *testing.T, what string, got impl.NodesOut, want impl.NodesOut) {
	t.Helper()
	if got.Code != want.Code || !equalNodes(got.Nodes, want.Nodes) {
		t.Errorf("%s = %d, %+v, want %d, %+v", what, got.Code, few(got.Nodes), want.Code, few(want.Nodes))
	}
	if got.Code == impl.OK {
		wantNodesRight(t, true, got.Nodes)
	}
}

func TestNodesRightCountsNodes(t *testing.T) {
	wantNodesRight(t, false, nil)
	wantNodesRight(t, false, []impl.Node{})
	for n := range 10 {
		wantNodesRight(t, n >= 1 && n <= 6, sameNodes(n))
		wantNodesRight(t, n >= 1 && n <= 6, sameNodes(n, 1, 3, 5, 8))
	}
	for _, n := range []int{impl.MaxList - 1, impl.MaxList, impl.MaxList + 1, 3 * impl.MaxList} {
		wantNodesRight(t, false, sameNodes(n))
	}
	wantNodesRight(t, true, threeNodes())
	wantNodesRight(t, true, fullNodes())
}

func TestNodesRightOfStates(t *testing.T) {
	for _, state := range append(edgeNums(), -3, -2, -1, 0, 1, 2, 3, 4, 5) {
		right := state >= 1 && state <= 3
		wantNodesRight(t, right, []impl.Node{node(state)})
		for at := range 6 {
			l := fullNodes()
			l[at].State = state
			wantNodesRight(t, right, l)
		}
	}
	wantNodesRight(t, false, make([]impl.Node, 1))
	wantNodesRight(t, false, make([]impl.Node, 6))
}

func TestNodesRightOfBooks(t *testing.T) {
	wantBooksRight(t, true, nil)
	wantBooksRight(t, true, []impl.Span{})
	for n := range 22 {
		wantBooksRight(t, n <= 4, comb(n))
	}
	for _, n := range []int{impl.MaxList, impl.MaxList + 1} {
		wantBooksRight(t, false, comb(n))
	}
	for _, x := range spans(0, 1, 0, impl.MaxTime, impl.MaxTime-1, impl.MaxTime, 7, 8) {
		wantBooksRight(t, true, []impl.Span{x})
	}
	for _, x := range wrongSpans() {
		wantBooksRight(t, false, []impl.Span{x})
		wantBooksRight(t, false, append(spans(0, 1, 1, 2, 3, 4), x))
	}
	for _, books := range wrongLists() {
		wantBooksRight(t, false, books)
	}
	wantBooksRight(t, true, spans(1, 3, 3, 5, 5, 6, 6, 9))
	wantBooksRight(t, false, spans(1, 3, 3, 5, 5, 6, 6, 9, 9, 10))
	wantBooksRight(t, false, spans(1, 3, 3, 5, 5, 7, 6, 9))
	wantBooksRight(t, false, spans(1, 3, 5, 6, 3, 5, 6, 9))
}

func TestNodesRightOfFewBooks(t *testing.T) {
	all := smallSpans(-1, 3)
	for _, a := range all {
		for _, b := range all {
			books := []impl.Span{a, b}
			wantNodesRight(t, plainListRight(books), []impl.Node{{State: impl.NdDrains, Books: books}})
			wantNodesRight(t, plainRight(a) && plainRight(b), []impl.Node{{State: impl.NdUp, Books: books[:1]}, {State: impl.NdDown, Books: books[1:]}})
		}
	}
}

func TestNodesRightOfMixedNodes(t *testing.T) {
	r := rand.New(rand.NewPCG(14, 1))
	count := map[bool]int{}
	for range 5000 {
		l := mixedNodeList(r, int64(r.IntN(20)))
		wantNodesRight(t, true, l)
		l = spoilNodes(r, l)
		count[plainNodesRight(l)]++
		wantNodesRight(t, plainNodesRight(l), l)
	}
	if count[false] < 1000 || count[true] < 1000 {
		t.Errorf("the lists are too much alike: %v", count)
	}
}

func TestWrongNodes(t *testing.T) {
	for _, l := range slices.Concat(wrongNodes(), tooManyNodes()) {
		wantNodesRight(t, false, l)
	}
}

func TestNodesNew(t *testing.T) {
	for n := int64(1); n <= 6; n++ {
		got := impl.NodesNew(n)
		if !equalNodes(got, sameNodes(int(n))) {
			t.Errorf("NodesNew(%d) = %+v", n, got)
		}
		wantNodesRight(t, true, got)
	}
	for _, n := range append(edgeNums(), math.MinInt64, -6, -1, 0, 7, 8, impl.MaxList, impl.MaxList+1, math.MaxInt64) {
		if got := impl.NodesNew(n); (n < 1 || n > 6) && len(got) != 0 {
			t.Errorf("NodesNew(%d) has %d nodes", n, len(got))
		}
	}
}
