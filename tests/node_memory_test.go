package tests

import (
	"math/rand/v2"
	"reflect"
	"slices"
	"testing"

	"loop.example/g00658/impl"
)

// roomyNodes is a copy of a list, all slices of which, the empty ones too, have room behind their elements.
func roomyNodes(l []impl.Node) []impl.Node {
	copied := make([]impl.Node, 0, len(l)+2)
	for _, d := range l {
		copied = append(copied, impl.Node{State: d.State, Books: append(make([]impl.Span, 0, len(d.Books)+2), d.Books...)})
	}
	return copied
}

// stretchedNodes is the same list, with all slices reaching to the end of their room.
func stretchedNodes(l []impl.Node) []impl.Node {
	l = slices.Clone(l[:cap(l)])
	for n, d := range l {
		l[n].Books = d.Books[:cap(d.Books)]
	}
	return l
}

// markBooks writes a different number into each place of the lists of reservations, also behind their ends, and reports whether each keeps its own.
func markBooks(rows [][]impl.Span) bool {
	next := int64(1000)
	for _, books := range rows {
		for i := range books[:cap(books)] {
			books[:cap(books)][i] = span(next, next)
			next++
		}
	}
	least := int64(1000)
	for _, books := range rows {
		for _, x := range books[:cap(books)] {
			if x != span(least, least) {
				return false
			}
			least++
		}
	}
	return true
}

func booksOfAll(l []impl.Node) [][]impl.Span {
	var rows [][]impl.Span
	for _, d := range l {
		rows = append(rows, d.Books)
	}
	return rows
}

// wantBooksApart calls a function twice with the same list and writes into the first result: neither the second one nor the list may change.
func wantBooksApart(t *testing.T, what string, l []impl.Node, call func(l []impl.Node) []impl.Node) {
	t.Helper()
	arg := roomyNodes(l)
	before := cloneNodes(stretchedNodes(arg))
	first, second := call(arg), call(arg)
	kept := cloneNodes(second)
	if !reflect.DeepEqual(before, cloneNodes(stretchedNodes(arg))) {
		t.Errorf("%s changes its argument", what)
	}
	if !markBooks(booksOfAll(first[:cap(first)])) {
		t.Errorf("%s: parts of the result share memory", what)
	}
	clear(first[:cap(first)])
	if !equalNodes(second, kept) {
		t.Errorf("%s: two results share memory", what)
	}
	if !reflect.DeepEqual(before, cloneNodes(stretchedNodes(arg))) {
		t.Errorf("%s: the result shares memory with the argument", what)
	}
}

// wantRowsApart is the same for the functions that return rows, which are given here as the reservations of nodes.
func wantRowsApart(t *testing.T, l []impl.Node) {
	t.Helper()
	for what, rowsOf := range map[string]func(l []impl.Node) [][]impl.Span{"RowsNew": impl.RowsNew, "RowsHard": impl.RowsHard} {
		wantBooksApart(t, what, l, func(l []impl.Node) []impl.Node {
			var nodes []impl.Node
			for _, books := range rowsOf(l) {
				nodes = append(nodes, impl.Node{Books: books})
			}
			return nodes
		})
	}
}

func wantAllNodesApart(t *testing.T, l []impl.Node, n int64, x impl.Span, now int64) {
	t.Helper()
	for state := int64(0); state <= 3; state++ {
		wantBooksApart(t, "NodeSet", l, func(l []impl.Node) []impl.Node { return impl.NodeSet(l, n, state).Nodes })
	}
	wantBooksApart(t, "BookPut", l, func(l []impl.Node) []impl.Node { return impl.BookPut(l, n, x, now).Nodes })
	for from := now - 2; from <= now+12; from++ {
		wantBooksApart(t, "BookCut", l, func(l []impl.Node) []impl.Node { return impl.BookCut(l, n, from).Nodes })
		wantBooksApart(t, "BooksPass", l, func(l []impl.Node) []impl.Node { return impl.BooksPass(l, from) })
	}
	wantRowsApart(t, l)
	wantBooksApart(t, "NodesRight", l, func(l []impl.Node) []impl.Node {
		if impl.NodesRight(l) != plainNodesRight(l) {
			t.Error("another result for a list with room behind its slices")
		}
		return nil
	})
}

func TestNodesShareNoMemory(t *testing.T) {
	r := rand.New(rand.NewPCG(14, 8))
	for range 500 {
		now := int64(r.IntN(20))
		l := mixedNodeList(r, now)
		from := now + int64(r.IntN(30))
		x := span(from, from+1+int64(r.IntN(4)))
		wantAllNodesApart(t, l, int64(r.IntN(len(l))), x, now)
		l = spoilNodes(r, l)
		wantAllNodesApart(t, l, int64(r.IntN(len(l)+2))-1, x, now)
	}
	for _, l := range [][]impl.Node{threeNodes(), fullNodes(), sameNodes(1), sameNodes(6), sameNodes(6, 5, 8)} {
		for n := range int64(len(l)) {
			wantAllNodesApart(t, l, n, span(8, 10), 1)
			wantAllNodesApart(t, l, n, span(5, 8), 1)
		}
	}
}

// TestWrongNodesAreKept looks at arguments that are refused.
func TestWrongNodesAreKept(t *testing.T) {
	for _, l := range slices.Concat(wrongNodes(), tooManyNodes()) {
		wantAllNodesApart(t, l, 0, span(3, 4), 0)
	}
}

func TestNewNodesShareNoMemory(t *testing.T) {
	for n := range int64(8) {
		wantBooksApart(t, "NodesNew", nil, func(l []impl.Node) []impl.Node { return impl.NodesNew(n) })
	}
}

// TestReservationIsNotKept writes into the row of a node that is never free: the next one may not know of it.
func TestReservationIsNotKept(t *testing.T) {
	l := []impl.Node{node(impl.NdDown), node(impl.NdDrains), node(impl.NdDown)}
	for _, rowsOf := range []func(l []impl.Node) [][]impl.Span{impl.RowsNew, impl.RowsHard} {
		rows := rowsOf(l)
		rows[0][0] = span(7, 9)
		rows[2] = append(rows[2], span(7, 9))
		wantRows(t, l, [][]impl.Span{spans(0, impl.MaxTime), spans(0, impl.MaxTime), spans(0, impl.MaxTime)}, [][]impl.Span{spans(0, impl.MaxTime), nil, spans(0, impl.MaxTime)})
	}
}
