package tests

import (
	"math/rand/v2"
	"testing"

	"loop.example/g00658/impl"
)

// wantSet compares NodeSet with the document.
func wantSet(t *testing.T, code int64, l []impl.Node, n int64, state int64) {
	t.Helper()
	want := plainNodeSet(l, n, state)
	if want.Code != code {
		t.Fatalf("the model gives %d for node %d of %+v and state %d, not %d", want.Code, n, few(l), state, code)
	}
	wantNewNodes(t, "NodeSet", impl.NodeSet(l, n, state), want)
}

func TestNodeSet(t *testing.T) {
	for _, l := range [][]impl.Node{threeNodes(), fullNodes(), sameNodes(1), sameNodes(1, 5, 8), sameNodes(6)} {
		for n := range int64(len(l)) {
			for state := int64(1); state <= 3; state++ {
				if l[n].State == state {
					wantSet(t, impl.ErrState, l, n, state)
				} else {
					wantSet(t, impl.OK, l, n, state)
				}
			}
		}
	}
}

// TestNodeSetKeepsTheRest writes the result down without the model.
func TestNodeSetKeepsTheRest(t *testing.T) {
	got := impl.NodeSet(threeNodes(), 0, impl.NdDown)
	want := []impl.Node{node(impl.NdDown, 5, 8, 12, 13), node(impl.NdDrains), node(impl.NdDown, 6, 7)}
	wantNewNodes(t, "NodeSet to down", got, impl.NodesOut{Nodes: want})
	want[2].State = impl.NdUp
	wantNewNodes(t, "NodeSet to up", impl.NodeSet(got.Nodes, 2, impl.NdUp), impl.NodesOut{Nodes: want})
	wantNewNodes(t, "NodeSet back", impl.NodeSet(got.Nodes, 0, impl.NdUp), impl.NodesOut{Nodes: threeNodes()})
}

func TestNodeSetOfWrongStates(t *testing.T) {
	for _, state := range append(edgeNums(), -3, -2, -1, 0, 4, 5) {
		if state >= 1 && state <= 3 {
			continue
		}
		for _, n := range []int64{-1, 0, 2, 3} {
			wantSet(t, impl.ErrForm, threeNodes(), n, state)
		}
	}
}

func TestNodeSetOfNoNode(t *testing.T) {
	for size := 1; size <= 6; size++ {
		last := int64(size) - 1
		for _, n := range append(wrongNums(), -2, -1, last+1, last+2) {
			for state := int64(1); state <= 3; state++ {
				wantSet(t, impl.ErrNone, sameNodes(size), n, state)
			}
		}
		wantSet(t, impl.OK, sameNodes(size), 0, impl.NdDrains)
		wantSet(t, impl.OK, sameNodes(size), last, impl.NdDrains)
		wantSet(t, impl.ErrState, sameNodes(size), last, impl.NdUp)
	}
}

// TestNodeSetErrorsInOrder also has what comes later in the order beside each error.
func TestNodeSetErrorsInOrder(t *testing.T) {
	for _, l := range tooManyNodes() {
		for _, n := range []int64{-1, 0, impl.MaxList, 3 * impl.MaxList} {
			for state := int64(0); state <= 4; state++ {
				wantSet(t, impl.ErrSize, l, n, state)
			}
		}
	}
	for _, l := range wrongNodes() {
		for _, n := range []int64{-1, 0, 1, 7, impl.MaxList} {
			for state := int64(0); state <= 4; state++ {
				wantSet(t, impl.ErrForm, l, n, state)
			}
		}
	}
}

func TestNodeSetOfMixedNodes(t *testing.T) {
	r := rand.New(rand.NewPCG(14, 2))
	count := map[int64]int{}
	for range 5000 {
		l := mixedNodeList(r, int64(r.IntN(20)))
		if r.IntN(3) == 0 {
			l = spoilNodes(r, l)
		}
		n, state := int64(r.IntN(len(l)+2))-1, int64(r.IntN(5))
		code := plainNodeSet(l, n, state).Code
		count[code]++
		wantSet(t, code, l, n, state)
	}
	if len(count) != 4 || count[impl.OK] < 500 || count[impl.ErrForm] < 500 || count[impl.ErrNone] < 500 || count[impl.ErrState] < 300 {
		t.Errorf("the codes are too much alike: %v", count)
	}
}
