package tests

import (
	"math/rand/v2"
	"slices"
	"testing"

	"loop.example/g00658/impl"
)

// wantPlaces compares a plan with the document and with what is expected, and checks what promise 19 says of it.
func wantPlaces(t *testing.T, y impl.Yard, want ...impl.Place) {
	t.Helper()
	if model := plainYardPlan(y); !samePlaces(model, want) {
		t.Fatalf("the model gives %+v for %+v, not %+v", model, fewOfYard(y), want)
	}
	got := impl.YardPlan(y)
	if !samePlaces(got, want) {
		t.Errorf("YardPlan(%+v):\n got %+v\nwant %+v", fewOfYard(y), got, want)
	}
	wantPlacesRight(t, y, got)
}

// wantPlacesRight is promise 19; besides, no place is where the nodes are closed, and none has another length than its task.
func wantPlacesRight(t *testing.T, y impl.Yard, plan []impl.Place) {
	t.Helper()
	taken := grid{}
	closed := sheet{y: y, taken: taken}
	for _, s := range plan {
		x := plainTaskOf(y.Tasks, s.Label, s.Id)
		if int64(len(s.Nodes)) != x.Need || !slices.IsSorted(s.Nodes) || len(slices.Compact(slices.Clone(s.Nodes))) != len(s.Nodes) {
			t.Errorf("place %+v has not the nodes that %+v needs", s, x)
		}
		for _, n := range s.Nodes {
			if !slices.Contains(plainNodesFor(y.Config, s.Label), n) {
				t.Errorf("place %+v has a node that is not cleared", s)
			}
		}
		// What is taken before is that of the places before it: none of them overlaps.
		if !closed.free(s.Nodes, s.From, s.To, !s.Runs) {
			t.Errorf("place %+v overlaps another one of %+v, or is where the nodes are closed", s, plan)
		}
		taken.reserve(s.Nodes, s.From, s.To)
		if s.Runs {
			right := x.State == impl.TkRuns && s.From == y.Now && s.To > y.Now && s.To <= x.Start+1+x.Long && slices.Equal(s.Nodes, x.Nodes)
			if !right {
				t.Errorf("place %+v is not where %+v runs", s, x)
			}
		} else if s.From < y.Now || s.From > y.Now+40 || s.To != s.From+1+x.Long {
			t.Errorf("place %+v is not one for %+v at %d", s, x, y.Now)
		}
	}
}

func TestYardPlanOfNone(t *testing.T) {
	low := label(0, 0)
	wantPlaces(t, emptyYard(plainConfig()))
	wantPlaces(t, withYard(emptyYard(plainConfig()), func(y *impl.Yard) { y.Tasks, y.Uses = []impl.Task{}, []impl.Use{} }))
	wantPlaces(t, yardWith(plainConfig(), taskIn(task(low, 1), impl.TkHeld), taskIn(task(low, 2), impl.TkDone), taskIn(task(low, 3), impl.TkOver), taskIn(task(low, 4), impl.TkGone)))
	wantPlaces(t, yardWith(plainConfig(), chainOf(low, impl.TkHeld, impl.TkWaits, impl.TkWaits)...))
	for _, y := range wrongYards() {
		if got := impl.YardPlan(y); len(got) != 0 {
			t.Errorf("YardPlan of an invalid yard, %+v, has %d places", fewOfYard(y), len(got))
		}
	}
}

// TestYardPlanOfStates has tasks in each state: only those that run, or wait and are ready, have places.
func TestYardPlanOfStates(t *testing.T) {
	low := label(0, 0)
	for i, state := range taskStates {
		first := taskIn(task(low, 1), state)
		if state == impl.TkRuns {
			first = onSince(low, 1, 1, 9, 0)
		}
		// The second one has a reserved place, which it keeps only if the first one is done.
		y := yardWith(openTo(1, low), first, after(dueAt(low, 2, 3, 20, 0), low, 1))
		switch state {
		case impl.TkWaits:
			wantPlaces(t, y, starting(low, 1, 9, 11, 0))
		case impl.TkRuns:
			wantPlaces(t, y, going(low, 1, 9, 11, 0))
		case impl.TkDone:
			wantPlaces(t, y, starting(low, 2, 9, 13, 0))
		default:
			wantPlaces(t, y)
		}
		// A third one may be where the second one's place is, unless that one is ready.
		y.Tasks = append(y.Tasks, asking(low, 3, 1, 20))
		plan := impl.YardPlan(y)
		if last := plan[len(plan)-1]; last.Id != 3 || last.From != []int64{11, 11, 9, 13, 9, 9}[i] {
			t.Errorf("beside a task in state %d, the third one is planned at %+v", state, last)
		}
		wantPlacesRight(t, y, plan)
	}
}

// TestYardPlanOfLabels has labels of which one dominates the other, and such that neither does. The places are in label order.
func TestYardPlanOfLabels(t *testing.T) {
	low, high, a, b := label(0, 0), label(1, 0), label(0, 1), label(0, 2)
	wantPlaces(t, yardWith(openTo(2, low, high), asking(low, 1, 1, 3), asking(high, 1, 2, 4)), starting(low, 1, 9, 13, 0), starting(high, 1, 13, 18, 0, 1))
	wantPlaces(t, yardWith(openTo(2, low, high), asking(low, 1, 1, 3), ranked(asking(high, 1, 1, 4), 9, 0)), starting(low, 1, 9, 13, 0), starting(high, 1, 9, 14, 1))
	wantPlaces(t, yardWith(openTo(2, low, high), asking(high, 1, 2, 4)), starting(high, 1, 9, 14, 0, 1))
	apart := impl.Config{Nodes: [][]impl.Label{{low, a}, {low, b}, {b}}, Half: 1}
	wantPlaces(t, yardWith(apart, asking(a, 1, 1, 4), asking(b, 1, 2, 6)), starting(a, 1, 9, 14, 0), starting(b, 1, 9, 16, 1, 2))
	wantPlaces(t, yardWith(apart, asking(low, 1, 1, 1), asking(a, 1, 1, 4), asking(b, 1, 2, 6)), starting(low, 1, 9, 11, 0), starting(a, 1, 11, 16, 0), starting(b, 1, 9, 16, 1, 2))
	wantPlaces(t, yardWith(apart, asking(low, 1, 2, 1), asking(a, 1, 1, 4), asking(b, 1, 1, 6)), starting(low, 1, 9, 11, 0, 1), starting(a, 1, 11, 16, 0), starting(b, 1, 9, 16, 2))
	// Four labels above each other, on nodes that not all of them may have.
	c := impl.Config{Nodes: [][]impl.Label{{low, a, label(1, 1), label(2, 3)}, {a, label(2, 3)}, {low, label(1, 1)}}, Half: 1}
	wantPlaces(t, yardWith(c, asking(low, 1, 2, 2), asking(a, 1, 2, 2), asking(label(1, 1), 1, 2, 2), asking(label(2, 3), 1, 2, 2), asking(label(2, 3), 2, 1, 2)),
		starting(low, 1, 9, 12, 0, 2), starting(a, 1, 12, 15, 0, 1), starting(label(1, 1), 1, 15, 18, 0, 2), starting(label(2, 3), 1, 18, 21, 0, 1), starting(label(2, 3), 2, 9, 12, 1))
}

// TestYardPlanOfOrder: who comes first in the order, has the first nodes.
func TestYardPlanOfOrder(t *testing.T) {
	low := label(0, 0)
	y := yardWith(openTo(1, low), asking(low, 1, 1, 2), asking(low, 2, 1, 4))
	first := []impl.Place{starting(low, 1, 9, 12, 0), starting(low, 2, 12, 17, 0)}
	second := []impl.Place{starting(low, 2, 9, 14, 0), starting(low, 1, 14, 17, 0)}
	wantPlaces(t, y, first...)
	wantPlaces(t, withYard(y, func(y *impl.Yard) { y.Tasks[1].Prio = 1 }), second...)
	wantPlaces(t, withYard(y, func(y *impl.Yard) { y.Tasks[0].Prio = 1 }), first...)
	wantPlaces(t, withYard(y, func(y *impl.Yard) { y.Tasks[0].Born = 1 }), second...)
	wantPlaces(t, withYard(y, func(y *impl.Yard) { y.Tasks[1].Born = 1 }), first...)
	bobs := withYard(y, func(y *impl.Yard) {
		y.Tasks[1].Owner, y.Uses = "bob", []impl.Use{use(low, "ann", 2), use(low, "bob", 1)}
	})
	wantPlaces(t, bobs, second...)
	wantPlaces(t, withYard(bobs, func(y *impl.Yard) { y.Uses[1].Used = 2 }), first...)
	wantPlaces(t, withYard(bobs, func(y *impl.Yard) { y.Uses = y.Uses[1:] }), first...)
	// A shorter one fills a gap before one that is ahead of it.
	y = yardWith(openTo(2, low), onSince(low, 1, 3, 8, 0), ranked(asking(low, 2, 2, 5), 9, 0), asking(low, 3, 1, 2), asking(low, 4, 1, 1))
	wantPlaces(t, y, going(low, 1, 9, 12, 0), starting(low, 2, 12, 18, 0, 1), starting(low, 3, 9, 12, 1), starting(low, 4, 18, 20, 0))
}

// TestYardPlanOfRunning is step 1, from the first epoch of a span to the last one.
func TestYardPlanOfRunning(t *testing.T) {
	low := label(0, 0)
	for _, long := range []int64{1, 2, 8} {
		for start := 9 - long; start <= 9; start++ {
			x := onSince(low, 1, long, start, 1)
			wantPlaces(t, yardWith(openTo(3, low), x), going(low, 1, 9, start+long+1, 1))
			wantPlaces(t, yardWith(openTo(3, low), x, asking(low, 2, 3, 1)), going(low, 1, 9, start+long+1, 1), starting(low, 2, start+long+1, start+long+3, 0, 1, 2))
		}
	}
	// Those that run stay where they are, whatever the order says, and come first in the plan.
	y := yardWith(openTo(3, low), ranked(asking(low, 1, 1, 4), 9, 0), onSince(low, 2, 5, 7, 2), ranked(onSince(low, 3, 5, 9, 0), 3, 0))
	wantPlaces(t, y, going(low, 3, 9, 15, 0), going(low, 2, 9, 13, 2), starting(low, 1, 9, 14, 1))
}

// TestYardPlanOfDisplaced has a task of a higher label, whose nodes a lower one occupies: at Now, later, and not before its end.
func TestYardPlanOfDisplaced(t *testing.T) {
	low, high := label(0, 0), label(1, 0)
	runs := onSince(high, 1, 6, 8, 1, 2)
	c := openTo(4, low, high)
	wantPlaces(t, yardWith(c, asking(low, 1, 1, 3), runs), starting(low, 1, 9, 13, 0), going(high, 1, 9, 15, 1, 2))
	wantPlaces(t, yardWith(c, asking(low, 1, 2, 3), runs), starting(low, 1, 9, 13, 0, 1), starting(high, 1, 9, 16, 2, 3))
	wantPlaces(t, yardWith(c, asking(low, 1, 3, 3), runs), starting(low, 1, 9, 13, 0, 1, 2), starting(high, 1, 13, 20, 0, 1))
	// It stands behind one of its own label that is ahead of it, and before one that is not.
	displacing := yardWith(c, asking(low, 1, 3, 3), runs, ranked(asking(high, 2, 1, 9), 1, 0))
	wantPlaces(t, displacing, starting(low, 1, 9, 13, 0, 1, 2), starting(high, 2, 9, 19, 3), starting(high, 1, 13, 20, 0, 1))
	displacing.Tasks[2].Need, displacing.Tasks[2].Prio = 3, 0
	wantPlaces(t, displacing, starting(low, 1, 9, 13, 0, 1, 2), starting(high, 1, 13, 20, 0, 1), starting(high, 2, 20, 30, 0, 1, 2))
	// A lower one with a reserved place comes later: until then the higher one goes on.
	for from := int64(10); from <= 17; from++ {
		full := yardWith(openTo(3, low, high), onSince(low, 1, 20, 9, 0), dueAt(low, 2, 2, from, 1, 2), onSince(low, 3, from-9, 8, 1), onSince(high, 1, 6, 8, 2))
		wantPlaces(t, full, going(low, 1, 9, 30, 0), going(low, 3, 9, from, 1), starting(low, 2, from, from+3, 1, 2), going(high, 1, 9, min(from, 15), 2))
	}
	// What it leaves is free for its own label.
	freed := yardWith(openTo(2, low, high), asking(low, 1, 1, 2), onSince(high, 1, 9, 9, 0, 1), asking(high, 2, 1, 1))
	wantPlaces(t, freed, starting(low, 1, 9, 12, 0), starting(high, 1, 12, 22, 0, 1), starting(high, 2, 9, 11, 1))
	// And of the other label that is above the lower one, but not above it.
	a, b := label(0, 1), label(0, 2)
	apart := impl.Config{Nodes: [][]impl.Label{{low, a}, {low, b}}, Half: 1}
	wantPlaces(t, yardWith(apart, asking(low, 1, 1, 2), onSince(a, 1, 9, 9, 0), onSince(b, 1, 9, 9, 1)), starting(low, 1, 9, 12, 0), starting(a, 1, 12, 22, 0), going(b, 1, 9, 19, 1))
}

// TestYardPlanOfRunningOnClosedNodes has a task on two nodes, one of which is down, drains, or is reserved.
func TestYardPlanOfRunningOnClosedNodes(t *testing.T) {
	low := label(0, 0)
	y := yardWith(openTo(4, low), onSince(low, 1, 5, 7, 0, 2))
	wantPlaces(t, y, going(low, 1, 9, 13, 0, 2))
	for n := range 4 {
		drains, down := withNode(y, n, node(impl.NdDrains)), withNode(y, n, node(impl.NdDown))
		wantPlaces(t, drains, going(low, 1, 9, 13, 0, 2))
		if n%2 == 1 {
			wantPlaces(t, down, going(low, 1, 9, 13, 0, 2))
			continue
		}
		wantPlaces(t, down, starting(low, 1, 9, 15, []int64{1, 0}[n/2], []int64{2, 1}[n/2]))
	}
	for _, c := range []struct {
		books []int64
		want  impl.Place
	}{
		{[]int64{3, 9}, going(low, 1, 9, 13, 0, 2)},
		{[]int64{8, 10}, starting(low, 1, 9, 15, 0, 1)},
		{[]int64{9, 10}, starting(low, 1, 9, 15, 0, 1)},
		{[]int64{10, 12}, going(low, 1, 9, 10, 0, 2)},
		{[]int64{12, 30}, going(low, 1, 9, 12, 0, 2)},
		{[]int64{13, 30}, going(low, 1, 9, 13, 0, 2)},
		{[]int64{14, 30}, going(low, 1, 9, 13, 0, 2)},
		{[]int64{3, 9, 11, 12, 12, 20}, going(low, 1, 9, 11, 0, 2)},
	} {
		wantPlaces(t, withNode(y, 2, node(impl.NdUp, c.books...)), c.want)
		// A node that drains is closed where it is reserved, too.
		wantPlaces(t, withNode(y, 2, node(impl.NdDrains, c.books...)), c.want)
	}
	// The earliest of two reservations ends it, on whichever node it is.
	for _, from := range []int64{10, 11, 12} {
		both := withNode(withNode(y, 0, node(impl.NdUp, from, 40)), 2, node(impl.NdUp, 11, 40))
		wantPlaces(t, both, going(low, 1, 9, min(from, 11), 0, 2))
	}
	// A reservation, or a lower label, whichever is earlier.
	high := label(1, 0)
	later := yardWith(openTo(2, low, high), onSince(low, 1, 2, 9, 1), dueAt(low, 2, 3, 12, 0, 1), onSince(high, 1, 9, 9, 0))
	for from, start := range map[int64]int64{10: 12, 11: 12, 12: 13, 13: 14, 16: 12, 20: 12} {
		to := min(from, start)
		wantPlaces(t, withNode(later, 0, node(impl.NdUp, from, from+1)), going(low, 1, 9, 12, 1), starting(low, 2, start, start+4, 0, 1), going(high, 1, 9, to, 0))
	}
}

// TestYardPlanOfReserved is step 2: a reserved place is kept, or taken by something else.
func TestYardPlanOfReserved(t *testing.T) {
	low, high := label(0, 0), label(1, 0)
	// Node 0 is busy until 14, so that there is nothing earlier on two nodes.
	y := yardWith(openTo(3, low, high), onSince(low, 1, 4, 9, 0), onSince(low, 2, 6, 9, 1), dueAt(high, 1, 2, 16, 0, 2))
	y.Nodes[2] = node(impl.NdUp, 12, 14)
	busy := []impl.Place{going(low, 1, 9, 14, 0), going(low, 2, 9, 16, 1)}
	wantPlaces(t, y, append(slices.Clone(busy), starting(high, 1, 14, 17, 0, 2))...)
	y.Tasks[0].Long = 6
	busy[0].To = 16
	// It is still free, and the earliest.
	kept := append(slices.Clone(busy), starting(high, 1, 16, 19, 0, 2))
	wantPlaces(t, y, kept...)
	for _, books := range [][]int64{{9, 16}, {14, 16, 19, 20}, {19, 45}} {
		wantPlaces(t, withNode(y, 2, node(impl.NdUp, books...)), kept...)
	}
	// A reservation takes an epoch of it.
	for _, books := range [][]int64{{16, 17}, {17, 18}, {18, 19}, {9, 30}, {15, 17}, {18, 30}} {
		wantPlaces(t, withNode(y, 2, node(impl.NdUp, books...)), append(slices.Clone(busy), starting(high, 1, 16, 19, 0, 1))...)
	}
	// The node's state takes it, also that of a node that drains.
	for _, state := range []int64{impl.NdDrains, impl.NdDown} {
		wantPlaces(t, withNode(y, 2, node(state)), append(slices.Clone(busy), starting(high, 1, 16, 19, 0, 1))...)
	}
	wantPlaces(t, withNode(withNode(y, 2, node(impl.NdDown)), 1, node(impl.NdDrains)), busy...)
	// A lower label takes it.
	taken := withYard(y, func(y *impl.Yard) { y.Tasks = slices.Insert(y.Tasks, 2, asking(low, 3, 1, 20)) })
	wantPlaces(t, withNode(taken, 2, node(impl.NdUp)), append(slices.Clone(busy), starting(low, 3, 9, 30, 2), starting(high, 1, 16, 19, 0, 1))...)
	// Its first epoch is sanitizing: what ends there is not in its way, and what begins in its last one is.
	edge := yardWith(openTo(1, low, high), onSince(low, 1, 2, 9, 0), dueAt(low, 2, 3, 16, 0), dueAt(high, 1, 3, 12, 0))
	wantPlaces(t, withNode(edge, 0, node(impl.NdUp, 13, 14)), going(low, 1, 9, 12, 0), starting(low, 2, 14, 18, 0), starting(high, 1, 18, 22, 0))
}

// TestYardPlanOfEarlierPlaces is step 3.
func TestYardPlanOfEarlierPlaces(t *testing.T) {
	low := label(0, 0)
	one := openTo(1, low)
	wantPlaces(t, yardWith(one, dueAt(low, 1, 3, 20, 0)), starting(low, 1, 9, 13, 0))
	// The new place overlaps the one that it gives up.
	wantPlaces(t, yardWith(one, onSince(low, 1, 3, 9, 0), dueAt(low, 2, 5, 14, 0)), going(low, 1, 9, 13, 0), starting(low, 2, 13, 19, 0))
	wantPlaces(t, yardWith(one, onSince(low, 1, 4, 9, 0), dueAt(low, 2, 5, 14, 0)), going(low, 1, 9, 14, 0), starting(low, 2, 14, 20, 0))
	// Its earlier place is its own: it keeps its nodes, though others come before them.
	y := yardWith(openTo(4, low), onSince(low, 1, 4, 9, 0), onSince(low, 2, 4, 9, 1), onSince(low, 3, 4, 9, 2), onSince(low, 4, 4, 9, 3), dueAt(low, 5, 2, 14, 1, 3))
	plan := []impl.Place{going(low, 1, 9, 14, 0), going(low, 2, 9, 14, 1), going(low, 3, 9, 14, 2), going(low, 4, 9, 14, 3)}
	wantPlaces(t, y, append(slices.Clone(plan), starting(low, 5, 14, 17, 1, 3))...)
	// If it moves, the first nodes are those that it takes.
	y.Tasks[4].Start = 15
	wantPlaces(t, y, append(slices.Clone(plan), starting(low, 5, 14, 17, 0, 1))...)
	y.Tasks = append(y.Tasks[:4:4], dueAt(low, 5, 2, 14, 1, 3), dueAt(low, 6, 2, 17, 1, 3))
	wantPlaces(t, y, append(slices.Clone(plan), starting(low, 5, 14, 17, 1, 3), starting(low, 6, 14, 17, 0, 2))...)
	// It can move to Now, and as little as one epoch.
	wantPlaces(t, yardWith(one, dueAt(low, 1, 3, 10, 0)), starting(low, 1, 9, 13, 0))
	wantPlaces(t, withNode(yardWith(one, dueAt(low, 1, 3, 49, 0)), 0, node(impl.NdUp, 9, 48)), starting(low, 1, 48, 52, 0))
	wantPlaces(t, withNode(yardWith(one, dueAt(low, 1, 3, 49, 0)), 0, node(impl.NdUp, 9, 49)), starting(low, 1, 49, 53, 0))
}

// TestYardPlanOneAfterTheOther: while a task looks for an earlier place, those behind it still have theirs, and those before it have their new ones.
func TestYardPlanOneAfterTheOther(t *testing.T) {
	low := label(0, 0)
	one := openTo(1, low)
	// The second one's place is in the way of the first one, though it moves away afterwards.
	wantPlaces(t, yardWith(one, dueAt(low, 1, 5, 20, 0), dueAt(low, 2, 1, 12, 0)), starting(low, 1, 14, 20, 0), starting(low, 2, 9, 11, 0))
	// In the other order, the first one's new place is not in the way of the second one.
	wantPlaces(t, yardWith(one, dueAt(low, 1, 1, 12, 0), dueAt(low, 2, 5, 20, 0)), starting(low, 1, 9, 11, 0), starting(low, 2, 11, 17, 0))
	// The rank decides, not the Id.
	wantPlaces(t, yardWith(one, dueAt(low, 1, 1, 12, 0), ranked(dueAt(low, 2, 5, 20, 0), 1, 0)), starting(low, 2, 14, 20, 0), starting(low, 1, 9, 11, 0))
	// One with a place comes before one without, whatever their ranks are.
	wantPlaces(t, yardWith(one, ranked(asking(low, 1, 1, 1), 9, 0), dueAt(low, 2, 5, 20, 0)), starting(low, 2, 9, 15, 0), starting(low, 1, 15, 17, 0))
	// Two reserved places overlap: the one that is ahead keeps its place, and the other one has none.
	y := yardWith(one, onSince(low, 1, 10, 9, 0), dueAt(low, 2, 3, 22, 0), dueAt(low, 3, 3, 20, 0))
	wantPlaces(t, y, going(low, 1, 9, 20, 0), starting(low, 2, 20, 24, 0), starting(low, 3, 24, 28, 0))
	y.Tasks[2].Prio = 1
	wantPlaces(t, y, going(low, 1, 9, 20, 0), starting(low, 3, 20, 24, 0), starting(low, 2, 24, 28, 0))
	// A reserved place where a task of the same label runs is none.
	wantPlaces(t, yardWith(one, onSince(low, 1, 10, 9, 0), ranked(dueAt(low, 2, 3, 19, 0), 9, 0), dueAt(low, 3, 1, 21, 0)), going(low, 1, 9, 20, 0), starting(low, 3, 20, 22, 0), starting(low, 2, 22, 26, 0))
	// All three kinds at once: those that stay, those with places in their order, and the others in theirs.
	many := yardWith(openTo(2, low), ranked(asking(low, 1, 2, 2), 5, 0), dueAt(low, 2, 2, 40, 0, 1), onSince(low, 3, 4, 8, 0), ranked(dueAt(low, 4, 1, 30, 1), 1, 0), ranked(asking(low, 5, 1, 1), 6, 0), onSince(low, 6, 1, 9, 1))
	wantPlaces(t, many, going(low, 3, 9, 13, 0), going(low, 6, 9, 11, 1), starting(low, 4, 11, 13, 1), starting(low, 2, 13, 16, 0, 1), starting(low, 5, 16, 18, 0), starting(low, 1, 18, 21, 0, 1))
}

// TestYardPlanOfNeeds has tasks that need as many nodes as are cleared, and one more than are free.
func TestYardPlanOfNeeds(t *testing.T) {
	low := label(0, 0)
	for n := int64(1); n <= 6; n++ {
		all := []int64{0, 1, 2, 3, 4, 5}[:n]
		y := yardWith(openTo(int(n), low), asking(low, 1, n, 3))
		wantPlaces(t, y, starting(low, 1, 9, 13, all...))
		if n == 1 {
			continue
		}
		busy := yardWith(openTo(int(n), low), onSince(low, 1, 5, 9, n-1), asking(low, 2, n, 3), asking(low, 3, n-1, 3))
		wantPlaces(t, busy, going(low, 1, 9, 15, n-1), starting(low, 2, 15, 19, all...), starting(low, 3, 9, 13, all[:n-1]...))
		wantPlaces(t, withNode(y, 0, node(impl.NdDrains)))
		wantPlaces(t, withNode(y, 0, node(impl.NdUp, 10, 11)), starting(low, 1, 11, 15, all...))
	}
	// Nodes that are not cleared count for nothing, though they are free.
	c := impl.Config{Nodes: [][]impl.Label{{label(1, 0)}, {low}, {label(1, 0)}, {low}}, Half: 1}
	wantPlaces(t, yardWith(c, asking(low, 1, 2, 3), asking(low, 2, 1, 3)), starting(low, 1, 9, 13, 1, 3), starting(low, 2, 13, 17, 1))
}

// TestYardPlanOfTheHorizon has a task that finds a place at the last time that is looked at, and one that finds none.
func TestYardPlanOfTheHorizon(t *testing.T) {
	low, high := label(0, 0), label(1, 0)
	for _, now := range []int64{0, 9, 1000, lastBorn} {
		at := func(tasks ...impl.Task) impl.Yard {
			return withYard(yardWith(openTo(1, low, high), tasks...), func(y *impl.Yard) { y.Now = now })
		}
		first, second := starting(low, 1, now, now+21, 0), starting(low, 2, now+21, now+40, 0)
		wantPlaces(t, at(asking(low, 1, 1, 20), asking(low, 2, 1, 18), asking(low, 3, 1, 20), asking(low, 4, 1, 1)), first, second, starting(low, 3, now+40, now+61, 0))
		second.To++
		wantPlaces(t, at(asking(low, 1, 1, 20), asking(low, 2, 1, 19), asking(low, 3, 1, 20), asking(low, 4, 1, 1)), first, second)
		// The same for a higher label, and where nothing but a reservation is in the way.
		wantPlaces(t, at(asking(low, 1, 1, 20), asking(low, 2, 1, 19), asking(high, 1, 1, 1)), first, second)
		second.To--
		wantPlaces(t, at(asking(low, 1, 1, 20), asking(low, 2, 1, 18), asking(high, 1, 1, 1)), first, second, starting(high, 1, now+40, now+42, 0))
		wantPlaces(t, withNode(at(asking(low, 1, 1, 2)), 0, node(impl.NdUp, now, now+40)), starting(low, 1, now+40, now+43, 0))
		wantPlaces(t, withNode(at(asking(low, 1, 1, 2)), 0, node(impl.NdUp, now, now+41)))
		wantPlaces(t, withNode(at(asking(low, 1, 1, 2)), 0, node(impl.NdUp, now+2, now+41)))
		wantPlaces(t, withNode(at(asking(low, 1, 1, 1), asking(low, 2, 1, 1)), 0, node(impl.NdUp, now+2, now+41)), starting(low, 1, now, now+2, 0))
		// A task that ran finds no other place either.
		wantPlaces(t, withNode(at(onSince(low, 1, 3, now, 0)), 0, node(impl.NdUp, now, now+41)))
		wantPlaces(t, withNode(at(onSince(low, 1, 3, now, 0)), 0, node(impl.NdUp, now, now+40)), starting(low, 1, now+40, now+44, 0))
	}
}

// TestYardPlanOfManySpans has more places on one node than a valid list has spans.
func TestYardPlanOfManySpans(t *testing.T) {
	chain := longChain()[:4]
	c := openTo(1, chain...)
	y := yardWith(c)
	var want []impl.Place
	at := int64(9)
	for _, a := range chain {
		c.Quotas = append(c.Quotas, quota(a, 9))
		for id := int64(1); id <= 9; id++ {
			y.Tasks = append(y.Tasks, asking(a, id, 1, 1))
			if at <= 49 {
				want = append(want, starting(a, id, at, at+2, 0))
			}
			at += 2
		}
	}
	y.Config = c
	if len(want) != 21 {
		t.Fatalf("%d places", len(want))
	}
	wantPlaces(t, y, want...)
	// With reservations between them, there are even more spans.
	y.Nodes[0] = node(impl.NdUp, 11, 12, 14, 15, 17, 18, 20, 21)
	wantPlaces(t, y, plainYardPlan(y)...)
	wantPlaces(t, fullYard(), plainYardPlan(fullYard())...)
}

// TestYardPlanOfMixedYards compares with the document's text.
func TestYardPlanOfMixedYards(t *testing.T) {
	r := rand.New(rand.NewPCG(15, 3))
	count := map[string]int{}
	for _, y := range []impl.Yard{busyYard(), fullYard(), stateYard(), runYard()} {
		wantPlaces(t, y, plainYardPlan(y)...)
	}
	for range 1500 {
		y := tickYard(r)
		if r.IntN(20) == 0 {
			spoilYard(r, &y)
		}
		plan := plainYardPlan(y)
		wantPlaces(t, y, plan...)
		countPlaces(count, y, plan)
	}
	for _, kind := range []string{"stays", "stays for less", "is displaced", "keeps its place", "moves forward", "loses its place", "starts", "waits", "has none"} {
		if count[kind] < 20 {
			t.Errorf("the plans are too much alike: %v", count)
		}
	}
}

// countPlaces counts what becomes of the tasks of a yard.
func countPlaces(count map[string]int, y impl.Yard, plan []impl.Place) {
	for _, x := range plainTaskOrder(y) {
		at := slices.IndexFunc(plan, func(s impl.Place) bool { return s.Label == x.Label && s.Id == x.Id })
		reserved := x.State == impl.TkWaits && len(x.Nodes) > 0
		switch {
		case at < 0:
			count["has none"]++
		case plan[at].Runs && plan[at].To < x.Start+1+x.Long:
			count["stays for less"]++
		case plan[at].Runs:
			count["stays"]++
		case x.State == impl.TkRuns:
			count["is displaced"]++
		case reserved && plan[at].From == x.Start && slices.Equal(plan[at].Nodes, x.Nodes):
			count["keeps its place"]++
		case reserved && plan[at].From < x.Start:
			count["moves forward"]++
		case reserved:
			count["loses its place"]++
		case plan[at].From == y.Now:
			count["starts"]++
		default:
			count["waits"]++
		}
	}
}
