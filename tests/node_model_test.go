package tests

import (
	"cmp"
	"math/rand/v2"
	"slices"

	"loop.example/g00658/impl"
)

// This file has what the document says of nodes and their reservations, written down step by step, and the nodes that they are tried on.

// node makes a node with reservations of the given ends: the first one begins a reservation, the next one ends it, and so on.
func node(state int64, ends ...int64) impl.Node {
	return impl.Node{State: state, Books: spans(ends...)}
}

// sameNodes makes a list of n nodes that are up, all with the same reservations.
func sameNodes(n int, ends ...int64) []impl.Node {
	var l []impl.Node
	for range n {
		l = append(l, node(impl.NdUp, ends...))
	}
	return l
}

// threeNodes has a node of each state, two of which have reservations.
func threeNodes() []impl.Node {
	return []impl.Node{node(impl.NdUp, 5, 8, 12, 13), node(impl.NdDrains), node(impl.NdDown, 6, 7)}
}

// fullNodes has as much of everything as there may be.
func fullNodes() []impl.Node {
	var l []impl.Node
	for i := range int64(6) {
		l = append(l, node(1+i%3, 10+i, 12+i, 12+i, 20, 20, 21+i, 30, 41))
	}
	return l
}

func cloneNodes(l []impl.Node) []impl.Node {
	var copied []impl.Node
	for _, d := range l {
		copied = append(copied, impl.Node{State: d.State, Books: slices.Clone(d.Books)})
	}
	return copied
}

// equalNodes takes nil and an empty slice as equal.
func equalNodes(a []impl.Node, b []impl.Node) bool {
	return slices.EqualFunc(a, b, func(x impl.Node, y impl.Node) bool {
		return x.State == y.State && slices.Equal(x.Books, y.Books)
	})
}

func plainNodesRight(l []impl.Node) bool {
	for _, d := range l {
		if d.State != 1 && d.State != 2 && d.State != 3 || len(d.Books) > 4 || !plainListRight(d.Books) {
			return false
		}
	}
	return len(l) >= 1 && len(l) <= 6
}

// plainNodeCode is what all three functions that change a node say before they look at it.
func plainNodeCode(l []impl.Node, n int64, argsRight bool) int64 {
	if len(l) > 400 {
		return impl.ErrSize
	}
	if !plainNodesRight(l) || !argsRight {
		return impl.ErrForm
	}
	if n < 0 || n >= int64(len(l)) {
		return impl.ErrNone
	}
	return impl.OK
}

func plainNodeSet(l []impl.Node, n int64, state int64) impl.NodesOut {
	if code := plainNodeCode(l, n, state == 1 || state == 2 || state == 3); code != impl.OK {
		return impl.NodesOut{Code: code}
	}
	if l[n].State == state {
		return impl.NodesOut{Code: impl.ErrState}
	}
	l = cloneNodes(l)
	l[n].State = state
	return impl.NodesOut{Nodes: l}
}

func plainBookPut(l []impl.Node, n int64, x impl.Span, now int64) impl.NodesOut {
	if code := plainNodeCode(l, n, plainRight(x) && now >= 0 && now <= 999900); code != impl.OK {
		return impl.NodesOut{Code: code}
	}
	if x.From <= now || x.To > now+40 {
		return impl.NodesOut{Code: impl.ErrRange}
	}
	if !plainFree(l[n].Books, x) {
		return impl.NodesOut{Code: impl.ErrThere}
	}
	if len(l[n].Books) == 4 {
		return impl.NodesOut{Code: impl.ErrFull}
	}
	l = cloneNodes(l)
	l[n].Books = append(l[n].Books, x)
	slices.SortFunc(l[n].Books, func(a impl.Span, b impl.Span) int { return cmp.Compare(a.From, b.From) })
	return impl.NodesOut{Nodes: l}
}

func plainBookCut(l []impl.Node, n int64, from int64) impl.NodesOut {
	if code := plainNodeCode(l, n, true); code != impl.OK {
		return impl.NodesOut{Code: code}
	}
	for i, x := range l[n].Books {
		if x.From == from {
			l = cloneNodes(l)
			l[n].Books = slices.Delete(l[n].Books, i, i+1)
			return impl.NodesOut{Nodes: l}
		}
	}
	return impl.NodesOut{Code: impl.ErrNone}
}

func plainBooksPass(l []impl.Node, now int64) []impl.Node {
	if !plainNodesRight(l) {
		return nil
	}
	var left []impl.Node
	for _, d := range l {
		var books []impl.Span
		for _, x := range d.Books {
			if x.To > now {
				books = append(books, x)
			}
		}
		left = append(left, impl.Node{State: d.State, Books: books})
	}
	return left
}

// plainRows makes a node of one of the given states unavailable at all times.
func plainRows(l []impl.Node, closed ...int64) [][]impl.Span {
	if !plainNodesRight(l) {
		return nil
	}
	var rows [][]impl.Span
	for _, d := range l {
		books := slices.Clone(d.Books)
		if slices.Contains(closed, d.State) {
			books = spans(0, impl.MaxTime)
		}
		rows = append(rows, books)
	}
	return rows
}

func plainRowsNew(l []impl.Node) [][]impl.Span {
	return plainRows(l, impl.NdDrains, impl.NdDown)
}

func plainRowsHard(l []impl.Node) [][]impl.Span {
	return plainRows(l, impl.NdDown)
}

// mixedBooks makes up to four reservations that begin soon behind a time.
func mixedBooks(r *rand.Rand, now int64) []impl.Span {
	row := mixedRow(r, now)
	return row[:min(len(row), 4)]
}

// mixedNodeList makes a valid list of nodes.
func mixedNodeList(r *rand.Rand, now int64) []impl.Node {
	var l []impl.Node
	for range 1 + r.IntN(6) {
		l = append(l, impl.Node{State: 1 + int64(r.IntN(3)), Books: mixedBooks(r, now)})
	}
	return l
}

// spoilNodes changes one thing of a list, which may stay valid.
func spoilNodes(r *rand.Rand, l []impl.Node) []impl.Node {
	d := &l[r.IntN(len(l))]
	switch r.IntN(5) {
	case 0:
		return append(l, sameNodes(r.IntN(7))...)
	case 1:
		d.State = int64(r.IntN(6)) - 1
	case 2:
		d.Books = append(d.Books, span(int64(r.IntN(9)), int64(r.IntN(60))))
	case 3:
		if len(d.Books) > 0 {
			d.Books[r.IntN(len(d.Books))].To += int64(r.IntN(7)) - 3
		}
	case 4:
		slices.Reverse(d.Books)
	}
	return l
}

// wrongNodes lists lists of nodes that are wrong in one way each, in each of their places.
func wrongNodes() [][]impl.Node {
	wrong := [][]impl.Node{nil, {}, sameNodes(7), sameNodes(8, 1, 3), sameNodes(impl.MaxList)}
	parts := []impl.Node{{}, {Books: spans(1, 3)}, {State: impl.NdUp, Books: comb(5)}, {State: impl.NdDown, Books: comb(20)}}
	for _, state := range append(wrongNums(), -1, 0, 4, 5) {
		parts = append(parts, node(state), node(state, 5, 8))
	}
	for _, books := range wrongLists() {
		parts = append(parts, impl.Node{State: impl.NdUp, Books: books}, impl.Node{State: impl.NdDown, Books: books})
	}
	parts = append(parts, impl.Node{State: impl.NdUp, Books: comb(impl.MaxList + 1)})
	for i, part := range parts {
		l := threeNodes()
		l[i%3] = part
		wrong = append(wrong, []impl.Node{part}, l)
	}
	return wrong
}

// tooManyNodes lists lists beyond the size limit.
func tooManyNodes() [][]impl.Node {
	return [][]impl.Node{sameNodes(impl.MaxList + 1), sameNodes(3*impl.MaxList, 5, 8), make([]impl.Node, impl.MaxList+1)}
}
