package tests

import (
	"math"
	"math/rand/v2"
	"slices"
	"testing"

	"loop.example/g00658/impl"
)

func wantTasks(t *testing.T, want bool, l []impl.Task) {
	t.Helper()
	if got := impl.TasksRight(l); got != want || got != plainTasksRight(l) {
		t.Errorf("TasksRight of %d tasks, %+v = %v, want %v", len(l), fewTasks(l), got, want)
	}
}

func wantTaskOf(t *testing.T, want impl.Task, l []impl.Task, a impl.Label, id int64) {
	t.Helper()
	if got := impl.TaskOf(l, a, id); !sameTask(got, want) || !sameTask(got, plainTaskOf(l, a, id)) {
		t.Errorf("TaskOf(%d tasks, %+v, %+v, %d) = %+v, want %+v", len(l), fewTasks(l), a, id, got, want)
	}
}

func wantLive(t *testing.T, want int64, l []impl.Task, a impl.Label) {
	t.Helper()
	if got := impl.LiveOf(l, a); got != want || got != plainLiveOf(l, a) {
		t.Errorf("LiveOf(%d tasks, %+v, %+v) = %d, want %d", len(l), fewTasks(l), a, got, want)
	}
}

// tasksOf makes one task of a label for each Id.
func tasksOf(a impl.Label, ids ...int64) []impl.Task {
	var l []impl.Task
	for _, id := range ids {
		l = append(l, task(a, id))
	}
	return l
}

// wrongTaskLists lists lists of tasks that are wrong in one way each.
func wrongTaskLists() [][]impl.Task {
	wrong := [][]impl.Task{manyTasks(97, 12), manyTasks(97, 4), manyTasks(384, 12), make([]impl.Task, 1), make([]impl.Task, 97), make([]impl.Task, impl.MaxList)}
	wrong = append(wrong, slices.Concat(manyTasks(384, 12), make([]impl.Task, 16)))
	for _, x := range wrongTasks() {
		wrong = append(wrong, []impl.Task{x})
	}
	for i, x := range []impl.Task{withNum(threeTasks()[0], 3, 7), withNum(threeTasks()[1], 4, 0), withNum(threeTasks()[2], 5, 10)} {
		l := threeTasks()
		l[i] = x
		wrong = append(wrong, l)
	}
	return slices.Concat(wrong, wrongTaskOrders(), wrongTaskNeeds())
}

// wrongTaskOrders lists lists of valid tasks with wrong Ids, or in a wrong order.
func wrongTaskOrders() [][]impl.Task {
	a, b, c := label(0, 0), label(1, 2), label(3, 7)
	var wrong [][]impl.Task
	for _, ids := range [][]int64{{2}, {12}, {1, 1}, {1, 3}, {2, 1}, {2, 3}, {1, 2, 2}, {1, 2, 4}, {1, 3, 2}, {1, 1, 2}, {1, 2, 1}, {1, 2, 3, 5}, {1, 2, 3, 4, 5, 6, 7, 8, 9, 10, 12}} {
		for _, one := range []impl.Label{a, b, c} {
			wrong = append(wrong, tasksOf(one, ids...))
		}
		wrong = append(wrong, slices.Concat(tasksOf(a, 1), tasksOf(b, ids...)), slices.Concat(tasksOf(b, ids...), tasksOf(c, 1)), slices.Concat(tasksOf(a, 1, 2, 3), tasksOf(b, ids...), tasksOf(c, 1, 2)))
	}
	wrong = append(wrong,
		slices.Concat(tasksOf(b, 1), tasksOf(a, 1)),
		slices.Concat(tasksOf(a, 1), tasksOf(c, 1), tasksOf(b, 1)),
		slices.Concat(tasksOf(a, 1), tasksOf(b, 1), tasksOf(a, 2)),
		slices.Concat(tasksOf(a, 1), tasksOf(b, 1), tasksOf(a, 1)),
		slices.Concat(tasksOf(a, 1), tasksOf(b, 2)),
		slices.Concat(tasksOf(a, 1, 2), tasksOf(b, 3)),
		slices.Concat(tasksOf(label(0, 2), 1), tasksOf(label(0, 1), 1)),
		slices.Concat(tasksOf(label(1, 0), 1), tasksOf(label(0, 7), 1)),
	)
	for i := range 95 {
		l := manyTasks(96, 12)
		l[i], l[i+1] = l[i+1], l[i]
		twice := manyTasks(96, 12)
		twice[i+1] = twice[i]
		wrong = append(wrong, l, twice)
	}
	return wrong
}

// wrongTaskNeeds lists lists in which a task depends on one that is not there.
func wrongTaskNeeds() [][]impl.Task {
	a, b, c := label(0, 0), label(1, 2), label(3, 7)
	return [][]impl.Task{
		{after(task(a, 1), a, 1)},
		{after(task(b, 1), a, 1)},
		{task(a, 1), after(task(a, 2), a, 2)},
		{task(a, 1), after(task(a, 2), a, 3), task(a, 3)},
		{task(a, 1), after(task(b, 1), a, 2)},
		{task(a, 1), after(task(c, 1), b, 1)},
		{task(a, 1), task(b, 1), after(task(c, 1), b, 2)},
		{task(a, 1), task(b, 1), after(task(c, 1), label(1, 0), 1)},
		{task(a, 1), task(b, 1), after(task(c, 1), label(0, 2), 1)},
		{task(a, 1), task(b, 1), after(task(c, 1), a, 12)},
		{after(task(a, 1), b, 1), task(b, 1)},
		{task(label(0, 1), 1), after(task(label(0, 2), 1), label(0, 1), 1)},
		{task(a, 1), after(task(b, 1), c, 1), task(c, 1)},
	}
}

func tooManyTasks() [][]impl.Task {
	return [][]impl.Task{slices.Concat(manyTasks(384, 12), make([]impl.Task, 17)), make([]impl.Task, impl.MaxList+1), slices.Repeat(tasksOf(label(0, 0), 1), 3*impl.MaxList)}
}

func TestTasksRightCountsTasks(t *testing.T) {
	wantTasks(t, true, nil)
	wantTasks(t, true, []impl.Task{})
	wantTasks(t, true, threeTasks())
	for each := 4; each <= 12; each++ {
		for n := range 110 {
			wantTasks(t, n <= 96, manyTasks(n, each))
		}
	}
	for n := range 33 {
		wantTasks(t, true, manyTasks(n, 1))
	}
	for n := range 40 {
		wantTasks(t, n <= 12, manyTasks(n, 40))
	}
	wantTasks(t, true, manyTasks(96, 3))
}

func TestTasksRightOfWrongLists(t *testing.T) {
	for _, l := range slices.Concat(wrongTaskLists(), tooManyTasks()) {
		wantTasks(t, false, l)
	}
}

// TestTasksRightOfSmallLists has all lists of three tasks of two labels, with Ids up to 3.
func TestTasksRightOfSmallLists(t *testing.T) {
	var some []impl.Task
	for _, a := range []impl.Label{label(0, 4), label(2, 4)} {
		some = append(some, tasksOf(a, 1, 2, 3)...)
	}
	right := 0
	for _, x := range some {
		for _, y := range some {
			for _, z := range some {
				l := []impl.Task{x, y, z}
				wantTasks(t, plainTasksRight(l), l)
				right += btoi(plainTasksRight(l))
			}
		}
	}
	if right != 4 {
		t.Errorf("%d lists are right, want 4", right)
	}
}

// TestTasksRightOfAllPairs has any two labels in either order: only label order is right.
func TestTasksRightOfAllPairs(t *testing.T) {
	for i, a := range allLabels() {
		for k, b := range allLabels() {
			wantTasks(t, i < k, []impl.Task{task(a, 1), task(b, 1)})
			wantTasks(t, i == k, []impl.Task{task(a, 1), task(b, 2)})
			wantTasks(t, i < k && plainBelow(a, b), []impl.Task{task(a, 1), after(task(b, 1), a, 1)})
			wantTasks(t, false, []impl.Task{after(task(a, 1), b, 1), task(b, 1)})
		}
	}
}

// TestTasksRightOfDependencies has a list of several labels in which one task depends on any task that may or may not be in it.
func TestTasksRightOfDependencies(t *testing.T) {
	l := slices.Concat(tasksOf(label(0, 0), 1, 2), tasksOf(label(0, 3), 1), tasksOf(label(1, 1), 1, 2, 3), tasksOf(label(2, 3), 1, 2), tasksOf(label(3, 7), 1))
	right := 0
	for i := range l {
		for _, under := range allLabels() {
			for id := int64(1); id <= 5; id++ {
				changed := cloneTasks(l)
				changed[i] = after(l[i], under, id)
				at := plainFind(l, under, id)
				there := at >= 0 && at < i && plainBelow(under, l[i].Label)
				wantTasks(t, there, changed)
				right += btoi(there)
			}
		}
	}
	if right < 20 {
		t.Errorf("only %d dependencies are right", right)
	}
}

func TestTasksRightOfMixedTasks(t *testing.T) {
	r := rand.New(rand.NewPCG(17, 2))
	count := map[bool]int{}
	for range 1500 {
		l := mixedTasks(r)
		wantTasks(t, true, l)
		l = spoilTasks(r, l)
		right := plainTasksRight(l)
		count[right]++
		wantTasks(t, right, l)
	}
	if count[true] < 200 || count[false] < 200 {
		t.Errorf("the spoilt lists are too much alike: %v", count)
	}
}

func TestTaskOf(t *testing.T) {
	r := rand.New(rand.NewPCG(17, 3))
	lists := [][]impl.Task{nil, {}, threeTasks(), manyTasks(96, 12), manyTasks(96, 3), manyTasks(32, 1), manyTasks(1, 1), chainOf(label(2, 2), taskStates...)}
	for range 30 {
		lists = append(lists, mixedTasks(r))
	}
	for _, l := range lists {
		for _, x := range l {
			wantTaskOf(t, x, l, x.Label, x.Id)
		}
		for _, a := range allLabels() {
			for id := int64(-1); id <= 14; id++ {
				wantTaskOf(t, plainTaskOf(l, a, id), l, a, id)
			}
		}
	}
}

func TestTaskOfWhatIsNotThere(t *testing.T) {
	l := slices.Concat(tasksOf(label(0, 0), 1, 2), tasksOf(label(1, 1), 1), tasksOf(label(3, 7), 1, 2, 3))
	for _, id := range append(wrongNums(), math.MinInt64, -12, -1, 0, 4, 12, 13) {
		for _, a := range allLabels() {
			wantTaskOf(t, impl.Task{}, l, a, id)
			wantTaskOf(t, impl.Task{}, nil, a, id)
		}
	}
	wantTaskOf(t, impl.Task{}, l, label(0, 0), 3)
	wantTaskOf(t, impl.Task{}, l, label(1, 1), 2)
	wantTaskOf(t, impl.Task{}, l, label(0, 1), 1)
	for _, a := range wrongLabels() {
		for id := range int64(4) {
			wantTaskOf(t, impl.Task{}, l, a, id)
			wantTaskOf(t, impl.Task{}, []impl.Task{task(a, 1)}, a, id)
		}
	}
	for _, l := range slices.Concat(wrongTaskLists(), tooManyTasks()) {
		for _, x := range l[:min(len(l), 3)] {
			wantTaskOf(t, impl.Task{}, l, x.Label, x.Id)
		}
	}
}

func TestLiveOf(t *testing.T) {
	a, b := label(0, 0), label(1, 5)
	l := slices.Concat(chainOf(a, taskStates...), chainOf(b, impl.TkHeld, impl.TkGone, impl.TkHeld, impl.TkRuns, impl.TkWaits), tasksOf(label(1, 6), 1))
	wantLive(t, 3, l, a)
	wantLive(t, 4, l, b)
	wantLive(t, 1, l, label(1, 6))
	// It is dominated by b, or dominates it, but has no tasks of its own.
	wantLive(t, 0, l, label(1, 4))
	wantLive(t, 0, l, label(3, 7))
	wantLive(t, 0, nil, a)
	wantLive(t, 0, []impl.Task{}, a)
	for i, state := range taskStates {
		wantLive(t, int64(btoi(i < 3)), chainOf(b, state), b)
	}
	for _, x := range rightTasks() {
		x = after(x, label(0, 0), 0)
		x.Id = 1
		wantLive(t, int64(btoi(x.State <= 3)), []impl.Task{x}, x.Label)
	}
	for n := range 12 {
		wantLive(t, int64(n), manyTasks(n, 12), a)
	}
	for _, c := range allLabels()[:8] {
		wantLive(t, 12, manyTasks(96, 12), c)
		wantLive(t, 0, manyTasks(97, 12), c)
	}
}

func TestLiveOfWrongArguments(t *testing.T) {
	for _, a := range wrongLabels() {
		wantLive(t, 0, threeTasks(), a)
		wantLive(t, 0, []impl.Task{task(a, 1)}, a)
	}
	for _, l := range slices.Concat(wrongTaskLists(), tooManyTasks()) {
		wantLive(t, 0, l, l[0].Label)
		wantLive(t, 0, l, label(0, 0))
	}
}

func TestLiveOfMixedTasks(t *testing.T) {
	r := rand.New(rand.NewPCG(17, 4))
	for range 200 {
		l := mixedTasks(r)
		total := int64(0)
		for _, a := range allLabels() {
			n := impl.LiveOf(l, a)
			wantLive(t, n, l, a)
			total += n
		}
		over := slices.DeleteFunc(slices.Clone(l), func(x impl.Task) bool { return x.State <= 3 })
		if int(total) != len(l)-len(over) {
			t.Errorf("%d tasks are live, %d of %d are not", total, len(over), len(l))
		}
	}
}
