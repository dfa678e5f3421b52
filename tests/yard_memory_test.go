package tests

import (
	"math/rand/v2"
	"reflect"
	"slices"
	"testing"

	"loop.example/g00658/impl"
)

// roomyYard is a copy of a yard, all slices of which, the empty ones too, have room behind their elements.
func roomyYard(y impl.Yard) impl.Yard {
	return impl.Yard{Config: roomyConfig(y.Config), Nodes: roomyNodes(y.Nodes), Tasks: roomyTasks(y.Tasks), Uses: withRoom(y.Uses), Now: y.Now}
}

// stretchedYard is the same yard, with all slices reaching to the end of their room.
func stretchedYard(y impl.Yard) impl.Yard {
	return impl.Yard{Config: stretchedConfig(y.Config), Nodes: stretchedNodes(y.Nodes), Tasks: stretchedTasks(y.Tasks), Uses: y.Uses[:cap(y.Uses)], Now: y.Now}
}

// markYard writes into each place of a yard's slices, also behind their ends, and reports whether each keeps what is written there.
func markYard(y impl.Yard) bool {
	whole := stretchedYard(y)
	kept := markTasks(whole.Tasks) && markBooks(booksOfAll(whole.Nodes))
	for i := range whole.Uses {
		whole.Uses[i] = use(label(-7, -7), "", int64(i))
	}
	kept = markConfig(y.Config) && kept
	clear(y.Tasks[:cap(y.Tasks)])
	clear(y.Nodes[:cap(y.Nodes)])
	return kept
}

// wantYardApart makes a call twice with the same yard and writes into the first result: neither the second one nor the yard may change.
func wantYardApart(t *testing.T, what string, y impl.Yard, call func(y impl.Yard) impl.Yard) {
	t.Helper()
	arg := roomyYard(y)
	before := cloneYard(stretchedYard(arg))
	first, second := call(arg), call(arg)
	kept := cloneYard(second)
	if !reflect.DeepEqual(before, cloneYard(stretchedYard(arg))) {
		t.Errorf("%s changes its argument", what)
	}
	if !markYard(first) {
		t.Errorf("%s: parts of the result share memory", what)
	}
	if !sameYard(second, kept) {
		t.Errorf("%s: two results share memory", what)
	}
	if !reflect.DeepEqual(before, cloneYard(stretchedYard(arg))) {
		t.Errorf("%s: the result shares memory with the argument", what)
	}
}

// wantAllYardsApart makes each call for one label, task and node, done or refused.
func wantAllYardsApart(t *testing.T, y impl.Yard, a impl.Label, id int64, n int64) {
	t.Helper()
	wantYardApart(t, "YardNew", y, func(y impl.Yard) impl.Yard { return impl.YardNew(y.Config).Yard })
	for _, w := range []impl.Wish{wishFor(1), counted(wishFor(1), 4), wishAfter(wishFor(1), a, id), {}} {
		wantYardApart(t, "YardSubmit", y, func(y impl.Yard) impl.Yard { return impl.YardSubmit(y, a, w).Yard })
	}
	for _, c := range taskCalls() {
		wantYardApart(t, c.name, y, func(y impl.Yard) impl.Yard { return c.call(y, a, id).Yard })
	}
	for state := int64(0); state <= 3; state++ {
		wantYardApart(t, "YardNode", y, func(y impl.Yard) impl.Yard { return impl.YardNode(y, n, state).Yard })
	}
	wantYardApart(t, "YardBook", y, func(y impl.Yard) impl.Yard { return impl.YardBook(y, n, span(y.Now+30, y.Now+31)).Yard })
	for _, from := range []int64{y.Now, y.Now + 3, y.Now + 11} {
		wantYardApart(t, "YardUnbook", y, func(y impl.Yard) impl.Yard { return impl.YardUnbook(y, n, from).Yard })
	}
	wantYardApart(t, "YardRight and YardView", y, func(y impl.Yard) impl.Yard {
		if impl.YardRight(y) != plainYardRight(y) || impl.YardView(y, a) != plainYardView(y, a) {
			t.Errorf("another result for %+v with room behind its slices", fewOfYard(y))
		}
		return impl.Yard{}
	})
}

func TestYardsShareNoMemory(t *testing.T) {
	r := rand.New(rand.NewPCG(18, 8))
	yards := []impl.Yard{busyYard(), fullYard(), stateYard(), runYard(), emptyYard(plainConfig()), emptyYard(wide(8))}
	for range 100 {
		y := mixedYard(r)
		changed := cloneYard(y)
		spoilYard(r, &changed)
		yards = append(yards, y, changed)
	}
	for _, y := range yards {
		labels := append(plainLabelsOf(y.Config), label(3, 7))
		for range 4 {
			wantAllYardsApart(t, y, labels[r.IntN(len(labels))], 1+r.Int64N(12), r.Int64N(6))
		}
	}
}

// TestWrongYardsAreKept looks at arguments that are refused.
func TestWrongYardsAreKept(t *testing.T) {
	low := label(0, 0)
	for _, y := range wrongYards() {
		arg := roomyYard(y)
		before := cloneYard(stretchedYard(arg))
		impl.YardRight(arg)
		impl.YardNew(arg.Config)
		impl.YardSubmit(arg, low, wishFor(1))
		for _, c := range taskCalls() {
			c.call(arg, low, 1)
		}
		impl.YardNode(arg, 0, impl.NdDown)
		impl.YardBook(arg, 0, span(30, 31))
		impl.YardUnbook(arg, 0, 12)
		impl.YardView(arg, low)
		if !reflect.DeepEqual(before, cloneYard(stretchedYard(arg))) {
			t.Errorf("changed: %+v", fewOfYard(before))
		}
	}
}

// TestYardPartsAreTheirOwn writes into one part of a result: no other part of it changes, also where two parts of the argument are alike.
func TestYardPartsAreTheirOwn(t *testing.T) {
	shared, books := []int64{0, 1}, spans(12, 15)
	clearance := []impl.Label{label(0, 0), label(1, 0)}
	y := impl.Yard{Config: impl.Config{Nodes: [][]impl.Label{clearance, clearance}, Half: 1}, Now: 9}
	y.Nodes = []impl.Node{{State: impl.NdUp, Books: books}, {State: impl.NdDrains, Books: books}}
	for id := int64(1); id <= 3; id++ {
		x := placed(task(label(0, 0), id), impl.TkWaits, 12, 0, 1)
		x.Nodes = shared
		y.Tasks = append(y.Tasks, x)
	}
	for _, out := range []impl.YardOut{impl.YardSubmit(y, label(1, 0), wishFor(1)), impl.YardHold(y, label(0, 0), 2), impl.YardBook(y, 0, span(20, 21)), impl.YardNode(y, 1, impl.NdUp), impl.YardUnbook(y, 1, 12)} {
		if out.Code != impl.OK || !markYard(out.Yard) {
			t.Errorf("code %d, or parts of the result share memory", out.Code)
		}
	}
	if !slices.Equal(shared, []int64{0, 1}) || !slices.Equal(books, spans(12, 15)) || !slices.Equal(clearance, []impl.Label{label(0, 0), label(1, 0)}) {
		t.Error("the argument has changed")
	}
}

// TestYardsKeepNoState makes other calls, and refused ones, between two that are the same.
func TestYardsKeepNoState(t *testing.T) {
	for range 5 {
		wantTaskCall(t, impl.OK, cancelCall(), busyYard(), label(0, 0), 3)
		wantTaskCall(t, impl.ErrState, freeCall(), busyYard(), label(0, 0), 3)
		impl.YardSubmit(fullYard(), label(0, 0), impl.Wish{})
		wantYardSubmit(t, impl.OK, busyYard(), label(0, 0), counted(wishFor(2), 2))
		wantYardNode(t, impl.OK, busyYard(), 0, impl.NdDown)
		wantYardView(t, plainYardView(busyYard(), label(1, 1)), busyYard(), label(1, 1))
	}
}
