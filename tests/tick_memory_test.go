package tests

import (
	"math/rand/v2"
	"reflect"
	"testing"

	"loop.example/g00658/impl"
)

// asTasks has the nodes of places where a yard has those of tasks, and nothing behind its end.
func asTasks(plan []impl.Place) []impl.Task {
	l := make([]impl.Task, 0, len(plan))
	for _, s := range plan {
		l = append(l, impl.Task{Label: s.Label, Id: s.Id, Start: s.From, Nodes: s.Nodes})
	}
	return l
}

// wantTicksApart makes each call of the chapter on a yard, done or refused.
func wantTicksApart(t *testing.T, y impl.Yard, a impl.Label) {
	t.Helper()
	wantYardApart(t, "TaskOrder", y, func(y impl.Yard) impl.Yard { return impl.Yard{Tasks: impl.TaskOrder(y)} })
	wantYardApart(t, "YardPlan", y, func(y impl.Yard) impl.Yard { return impl.Yard{Tasks: asTasks(impl.YardPlan(y))} })
	wantYardApart(t, "YardTick", y, func(y impl.Yard) impl.Yard { return impl.YardTick(y).Yard })
	for _, n := range []int64{0, 1, 3, 51} {
		wantYardApart(t, "YardTicks", y, func(y impl.Yard) impl.Yard { return impl.YardTicks(y, n).Yard })
	}
	wantYardApart(t, "all functions", y, func(roomy impl.Yard) impl.Yard {
		same := sameTasks(impl.TaskOrder(roomy), plainTaskOrder(y)) && samePlaces(impl.YardPlan(roomy), plainYardPlan(y)) && impl.Least(roomy, a, 1, 5) == plainLeast(y, a, 1, 5)
		if !same || !sameYard(impl.YardTick(roomy).Yard, plainYardTick(y).Yard) {
			t.Errorf("another result for %+v with room behind its slices", fewOfYard(y))
		}
		return impl.Yard{}
	})
}

func TestTicksShareNoMemory(t *testing.T) {
	r := rand.New(rand.NewPCG(15, 7))
	yards := []impl.Yard{busyYard(), fullYard(), stateYard(), runYard(), emptyYard(plainConfig()), emptyYard(wide(8))}
	for range 100 {
		y := tickYard(r)
		changed := cloneYard(y)
		spoilYard(r, &changed)
		yards = append(yards, y, changed)
	}
	execute(r, newYards(r, 10), 40, anyDeed, func(c change) {
		if c.name == "YardTick" {
			yards = append(yards, c.after)
		}
	})
	for _, y := range yards {
		labels := append(plainLabelsOf(y.Config), label(3, 7))
		wantTicksApart(t, y, labels[r.IntN(len(labels))])
	}
}

// TestPlansAreTheirOwn writes into the places of one plan: those of another one stay as they are, and the yard's tasks, too.
func TestPlansAreTheirOwn(t *testing.T) {
	low := label(0, 0)
	y := yardWith(openTo(3, low), onSince(low, 1, 5, 8, 0), onSince(low, 2, 5, 8, 1), dueAt(low, 3, 5, 14, 1, 2), asking(low, 4, 3, 2))
	first := impl.YardPlan(y)
	first = first[:cap(first)]
	for i := range first {
		for k := range first[i].Nodes {
			first[i].Nodes[k] = 77
		}
		first[i] = impl.Place{}
	}
	wantPlaces(t, y, going(low, 1, 9, 14, 0), going(low, 2, 9, 14, 1), starting(low, 3, 14, 20, 1, 2), starting(low, 4, 20, 23, 0, 1, 2))
}

// TestTickedPartsAreTheirOwn writes into one part of a result: no other part of it changes, also where two parts of the argument are the same memory.
func TestTickedPartsAreTheirOwn(t *testing.T) {
	low, shared, books := label(0, 0), []int64{0, 1}, spans(30, 35)
	clearance := []impl.Label{low, label(1, 0)}
	y := impl.Yard{Config: impl.Config{Nodes: [][]impl.Label{clearance, clearance}, Half: 1}, Now: 9}
	y.Nodes = []impl.Node{{State: impl.NdUp, Books: books}, {State: impl.NdUp, Books: books}}
	for id, start := range []int64{9, 13, 17} {
		x := dueAt(low, int64(id)+1, 3, start, shared...)
		x.Nodes = shared
		y.Tasks = append(y.Tasks, x)
	}
	y.Tasks[0].State = impl.TkRuns
	for _, out := range []impl.YardOut{impl.YardTick(y), impl.YardTicks(y, 1), impl.YardTicks(y, 5), impl.YardTicks(y, 30)} {
		if out.Code != impl.OK || !markYard(out.Yard) {
			t.Errorf("code %d, or parts of the result share memory", out.Code)
		}
	}
	if order := impl.TaskOrder(y); len(order) != 3 || !markTasks(order) {
		t.Errorf("parts of the order share memory")
	}
	if plan := impl.YardPlan(y); len(plan) != 3 || !markTasks(asTasks(plan)) {
		t.Errorf("parts of the plan share memory")
	}
	if !reflect.DeepEqual(shared, []int64{0, 1}) || !reflect.DeepEqual(books, spans(30, 35)) || !reflect.DeepEqual(clearance, []impl.Label{low, label(1, 0)}) {
		t.Error("the argument has changed")
	}
}

// TestWrongYardsAreKeptByTicks looks at arguments that are refused.
func TestWrongYardsAreKeptByTicks(t *testing.T) {
	for _, y := range wrongYards() {
		arg := roomyYard(y)
		before := cloneYard(stretchedYard(arg))
		impl.TaskOrder(arg)
		impl.YardPlan(arg)
		impl.Least(arg, label(0, 0), 1, 1)
		impl.YardTick(arg)
		impl.YardTicks(arg, 1)
		if !reflect.DeepEqual(before, cloneYard(stretchedYard(arg))) {
			t.Errorf("changed: %+v", fewOfYard(before))
		}
	}
}

// TestTicksKeepNoState makes other calls, and refused ones, between two that are the same.
func TestTicksKeepNoState(t *testing.T) {
	for range 5 {
		wantTick(t, impl.OK, busyYard())
		impl.YardTicks(fullYard(), 50)
		wantPlaces(t, stateYard(), plainYardPlan(stateYard())...)
		impl.YardTick(impl.Yard{})
		wantLeast(t, plainLeast(runYard(), label(1, 1), 2, 3), runYard(), label(1, 1), 2, 3)
		impl.Least(runYard(), label(4, 0), 0, 0)
		wantTicks(t, impl.OK, runYard(), 7)
		wantOrder(t, emptyYard(plainConfig()))
	}
}
