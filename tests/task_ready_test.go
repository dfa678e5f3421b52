package tests

import (
	"math/rand/v2"
	"slices"
	"testing"

	"loop.example/g00658/impl"
)

func wantReady(t *testing.T, want bool, l []impl.Task, x impl.Task) {
	t.Helper()
	if got := impl.TaskReady(l, x); got != want || got != plainTaskReady(l, x) {
		t.Errorf("TaskReady(%d tasks, %+v, %+v) = %v, want %v", len(l), fewTasks(l), fewTasks([]impl.Task{x}), got, want)
	}
}

func TestTaskReadyOfEachState(t *testing.T) {
	low := label(0, 0)
	for _, state := range append(taskStates, -1, 0, 7) {
		x := taskIn(task(low, 1), state)
		wantReady(t, state == impl.TkWaits, nil, x)
		wantReady(t, state == impl.TkWaits, []impl.Task{}, x)
		wantReady(t, state == impl.TkWaits, threeTasks(), x)
		y := after(taskIn(task(low, 2), state), low, 1)
		wantReady(t, state == impl.TkWaits, chainOf(low, impl.TkDone), y)
		wantReady(t, false, chainOf(low, impl.TkGone), y)
		wantReady(t, false, nil, y)
	}
}

// TestTaskReadyOfDependencies has a task of any label that depends on one of any label in any state.
func TestTaskReadyOfDependencies(t *testing.T) {
	for _, a := range allLabels() {
		for _, b := range allLabels() {
			for _, state := range taskStates {
				l := chainOf(a, state, impl.TkWaits)
				x := after(task(b, 2), a, 1)
				wantReady(t, plainBelow(a, b) && state == impl.TkDone, l, x)
				wantReady(t, plainBelow(a, b) && state == impl.TkDone, l, taskAt(x, 30, 5))
				wantReady(t, true, l, task(b, 2))
				// These depend on what is not in the list, or is not done.
				wantReady(t, false, l, after(task(b, 4), a, 2))
				wantReady(t, false, l, after(task(b, 4), a, 3))
			}
		}
	}
}

// TestTaskReadyLooksForTheTask has tasks in all states beside the one that is done.
func TestTaskReadyLooksForTheTask(t *testing.T) {
	low, middle, high := label(0, 0), label(1, 5), label(3, 7)
	l := slices.Concat(tasksOf(low, 1, 2, 3), chainOf(middle, impl.TkDone, impl.TkHeld, impl.TkOver), tasksOf(high, 1))
	for _, x := range l {
		for _, a := range allLabels() {
			wantReady(t, plainBelow(x.Label, a) && x.State == impl.TkDone, l, after(task(a, 12), x.Label, x.Id))
		}
	}
	// One task of the list is done, each in its turn.
	for i := range l {
		for k, x := range l {
			l := cloneTasks(l)
			for n := range l {
				l[n].State = impl.TkWaits
			}
			l[i].State = impl.TkDone
			wantReady(t, i == k, l, after(task(high, 12), x.Label, x.Id))
		}
	}
}

func TestTaskReadyNeedsNoTaskOfTheList(t *testing.T) {
	l := chainOf(label(1, 2), impl.TkDone, impl.TkGone)
	wantReady(t, true, l, task(label(0, 0), 12))
	wantReady(t, true, l, task(label(1, 2), 1))
	wantReady(t, true, l, after(task(label(1, 2), 2), label(1, 2), 1))
	wantReady(t, true, l, after(task(label(3, 7), 5), label(1, 2), 1))
	wantReady(t, false, l, after(task(label(3, 7), 5), label(1, 2), 2))
}

func TestTaskReadyOfWrongArguments(t *testing.T) {
	l := threeTasks()
	l[0].State = impl.TkDone
	for _, x := range wrongTasks() {
		wantReady(t, false, l, x)
		wantReady(t, false, nil, x)
	}
	for _, l := range slices.Concat(wrongTaskLists(), tooManyTasks()) {
		wantReady(t, false, l, task(label(0, 0), 1))
		wantReady(t, false, l, after(task(label(3, 7), 12), label(0, 0), 1))
	}
}

func TestTaskReadyOfMixedTasks(t *testing.T) {
	r := rand.New(rand.NewPCG(17, 5))
	count := map[bool]int{}
	for range 300 {
		l := mixedTasks(r)
		for _, x := range l {
			ready := plainTaskReady(l, x)
			count[ready] += btoi(x.After > 0)
			wantReady(t, ready, l, x)
		}
		l = spoilTasks(r, l)
		for _, x := range l[:min(len(l), 9)] {
			wantReady(t, plainTaskReady(l, x), l, x)
		}
	}
	if count[true] < 100 || count[false] < 1000 {
		t.Errorf("the tasks that depend on others are too much alike: %v", count)
	}
}
