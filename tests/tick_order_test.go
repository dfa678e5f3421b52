package tests

import (
	"math/rand/v2"
	"slices"
	"testing"

	"loop.example/g00658/impl"
)

// wantOrder expects the tasks of a yard with these indexes, in this order.
func wantOrder(t *testing.T, y impl.Yard, indexes ...int) {
	t.Helper()
	var want []impl.Task
	for _, i := range indexes {
		want = append(want, y.Tasks[i])
	}
	if model := plainTaskOrder(y); !sameTasks(model, want) {
		t.Fatalf("the model gives %+v for %+v, not %v", fewTasks(model), fewOfYard(y), indexes)
	}
	if got := impl.TaskOrder(y); !sameTasks(got, want) {
		t.Errorf("TaskOrder(%+v) = %+v, want %v", fewOfYard(y), fewTasks(got), indexes)
	}
}

func TestTaskOrderOfNone(t *testing.T) {
	wantOrder(t, emptyYard(plainConfig()))
	wantOrder(t, withYard(emptyYard(plainConfig()), func(y *impl.Yard) { y.Tasks, y.Uses = []impl.Task{}, []impl.Use{} }))
	low := label(0, 0)
	wantOrder(t, yardWith(plainConfig(), taskIn(task(low, 1), impl.TkHeld), taskIn(task(low, 2), impl.TkDone), taskIn(task(low, 3), impl.TkOver), taskIn(task(low, 4), impl.TkGone)))
	for _, y := range wrongYards() {
		if got := impl.TaskOrder(y); len(got) != 0 {
			t.Errorf("TaskOrder of an invalid yard, %+v, has %d tasks", fewOfYard(y), len(got))
		}
	}
}

// TestTaskOrderOfStates has tasks in each state, and such as depend on one in each state.
func TestTaskOrderOfStates(t *testing.T) {
	low, high := label(0, 0), label(1, 0)
	tasks := tasksOf(low, 1, 2, 3, 4, 5, 6, 7)
	for i, state := range taskStates {
		tasks[i].State = state
	}
	tasks[1], tasks[6] = onSince(low, 2, 3, 8, 0), dueAt(low, 7, 4, 12, 1)
	y := yardWith(openTo(2, low, high), tasks...)
	wantOrder(t, y, 0, 1, 6)
	for i := range tasks {
		y.Tasks = append(slices.Clone(tasks), after(task(high, 1), low, int64(i)+1), after(dueAt(high, 2, 1, 11, 0), low, int64(i)+1), after(taskIn(task(high, 3), impl.TkHeld), low, int64(i)+1))
		if i == 3 {
			wantOrder(t, y, 0, 1, 6, 7, 8)
		} else {
			wantOrder(t, y, 0, 1, 6)
		}
		// What runs is planned, whatever it depends on.
		y.Tasks = append(slices.Clone(tasks), after(onSince(high, 1, 1, 9, 1), low, int64(i)+1))
		wantOrder(t, y, 0, 1, 6, 7)
	}
}

// TestTaskOrderOfLabels has labels of which one dominates the other, and such that neither does; no rank outweighs a label.
func TestTaskOrderOfLabels(t *testing.T) {
	c := impl.Config{Nodes: [][]impl.Label{{label(0, 1), label(2, 1)}, {label(0, 2), label(1, 2)}, {label(1, 1)}}, Half: 2}
	tasks := []impl.Task{
		task(label(0, 1), 1), ranked(task(label(0, 2), 1), 4, 0), ranked(task(label(1, 1), 1), 9, 0), ranked(task(label(1, 2), 1), 0, 9), ranked(task(label(2, 1), 1), 9, 0),
	}
	wantOrder(t, yardWith(c, tasks...), 0, 1, 2, 3, 4)
	tasks = slices.Insert(tasks, 1, ranked(task(label(0, 1), 2), 1, 9))
	wantOrder(t, yardWith(c, tasks...), 1, 0, 2, 3, 4, 5)
}

// TestTaskOrderOfRanks has two tasks that differ in one part of their rank only.
func TestTaskOrderOfRanks(t *testing.T) {
	low := label(0, 0)
	y := yardWith(openTo(2, low), tasksOf(low, 1, 2)...)
	y.Now = 100
	wantOrder(t, y, 0, 1)
	for _, c := range []struct {
		first, second         impl.Task
		firstUsed, secondUsed int64
		secondIsAhead         bool
	}{
		{ranked(task(low, 1), 3, 0), ranked(task(low, 2), 4, 0), 0, 0, true},
		{ranked(task(low, 1), 4, 0), ranked(task(low, 2), 3, 0), 0, 0, false},
		{ranked(task(low, 1), 0, 90), ranked(task(low, 2), 0, 89), 0, 0, true},
		{ranked(task(low, 1), 0, 89), ranked(task(low, 2), 0, 90), 0, 0, false},
		// An age beyond 50 counts as 50.
		{ranked(task(low, 1), 0, 51), ranked(task(low, 2), 0, 50), 0, 0, true},
		{ranked(task(low, 1), 0, 50), ranked(task(low, 2), 0, 49), 0, 0, false},
		{ranked(task(low, 1), 0, 50), ranked(task(low, 2), 0, 0), 0, 0, false},
		{task(low, 1), task(low, 2), 1, 0, true},
		{task(low, 1), task(low, 2), 8, 7, true},
		{task(low, 1), task(low, 2), 7, 8, false},
		{task(low, 1), task(low, 2), 7, 7, false},
		// What is used beyond 90 counts as 90.
		{task(low, 1), task(low, 2), 90, 89, true},
		{task(low, 1), task(low, 2), 91, 90, false},
		{task(low, 1), task(low, 2), impl.MaxUse, 90, false},
		// One more priority outweighs 50 of age, and 90 of use, but not both.
		{ranked(task(low, 1), 0, 0), ranked(task(low, 2), 1, 100), 0, 0, true},
		{ranked(task(low, 1), 0, 100), ranked(task(low, 2), 1, 100), 0, 90, true},
		{ranked(task(low, 1), 0, 0), ranked(task(low, 2), 1, 100), 0, 49, true},
		{ranked(task(low, 1), 0, 0), ranked(task(low, 2), 1, 100), 0, 50, false},
		{ranked(task(low, 1), 0, 0), ranked(task(low, 2), 1, 100), 0, 51, false},
		{ranked(task(low, 1), 0, 0), ranked(task(low, 2), 0, 100), 49, 0, false},
		{ranked(task(low, 1), 0, 0), ranked(task(low, 2), 0, 100), 51, 0, true},
	} {
		y.Tasks, y.Uses = []impl.Task{ownedBy(c.first, "ann"), ownedBy(c.second, "bob")}, nil
		if c.firstUsed > 0 {
			y.Uses = append(y.Uses, use(low, "ann", c.firstUsed))
		}
		if c.secondUsed > 0 {
			y.Uses = append(y.Uses, use(low, "bob", c.secondUsed))
		}
		if c.secondIsAhead {
			wantOrder(t, y, 1, 0)
		} else {
			wantOrder(t, y, 0, 1)
		}
	}
}

// TestTaskOrderOfUses: what an owner has used under one label counts for no other one.
func TestTaskOrderOfUses(t *testing.T) {
	low, high := label(0, 0), label(1, 0)
	var tasks []impl.Task
	for _, a := range []impl.Label{low, high} {
		tasks = append(tasks, ownedBy(task(a, 1), "ann"), ownedBy(task(a, 2), "bob"), ownedBy(task(a, 3), "cy"))
	}
	y := yardWith(openTo(1, low, high), tasks...)
	wantOrder(t, y, 0, 1, 2, 3, 4, 5)
	y.Uses = []impl.Use{use(low, "ann", 4), use(low, "bob", 2)}
	wantOrder(t, y, 2, 1, 0, 3, 4, 5)
	y.Uses = []impl.Use{use(high, "ann", 4), use(high, "bob", 2)}
	wantOrder(t, y, 0, 1, 2, 5, 4, 3)
	y.Uses = []impl.Use{use(low, "bob", 9), use(high, "ann", 4), use(high, "bob", 2)}
	wantOrder(t, y, 0, 2, 1, 5, 4, 3)
}

// TestTaskOrderOfManyTasks has as many tasks of a label as there may be, each with another rank, in many orders.
func TestTaskOrderOfManyTasks(t *testing.T) {
	low := label(0, 0)
	r := rand.New(rand.NewPCG(15, 1))
	c := openTo(1, low)
	c.Quotas = []impl.Quota{quota(low, 9)}
	for range 50 {
		y := yardWith(c)
		prios := r.Perm(9)
		for i, prio := range prios {
			y.Tasks = append(y.Tasks, ranked(task(low, int64(i)+1), int64(prio), 0))
		}
		var want []int
		for prio := 8; prio >= 0; prio-- {
			want = append(want, slices.Index(prios, prio))
		}
		wantOrder(t, y, want...)
	}
}

func TestTaskOrderOfMixedYards(t *testing.T) {
	r := rand.New(rand.NewPCG(15, 2))
	for _, y := range []impl.Yard{busyYard(), fullYard(), stateYard(), runYard()} {
		if got, want := impl.TaskOrder(y), plainTaskOrder(y); len(want) == 0 || !sameTasks(got, want) {
			t.Errorf("TaskOrder(%+v) = %+v, want %+v", fewOfYard(y), fewTasks(got), fewTasks(want))
		}
	}
	moved := 0
	for range 1500 {
		y := tickYard(r)
		if r.IntN(10) == 0 {
			spoilYard(r, &y)
		}
		got, want := impl.TaskOrder(y), plainTaskOrder(y)
		if !sameTasks(got, want) {
			t.Errorf("TaskOrder(%+v) = %+v, want %+v", fewOfYard(y), fewTasks(got), fewTasks(want))
		}
		for i := 1; i < len(want); i++ {
			moved += btoi(want[i-1].Label == want[i].Label && want[i-1].Id > want[i].Id)
		}
	}
	if moved < 500 {
		t.Errorf("only %d tasks have another place than their Ids say", moved)
	}
}
