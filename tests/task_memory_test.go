package tests

import (
	"math/rand/v2"
	"reflect"
	"slices"
	"testing"

	"loop.example/g00658/impl"
)

// roomyTasks is a copy of a list, all slices of which, the empty ones too, have room behind their elements.
func roomyTasks(l []impl.Task) []impl.Task {
	copied := make([]impl.Task, 0, len(l)+2)
	for _, x := range l {
		x.Nodes = append(make([]int64, 0, len(x.Nodes)+2), x.Nodes...)
		copied = append(copied, x)
	}
	return copied
}

// stretchedTasks is the same list, with all slices reaching to the end of their room.
func stretchedTasks(l []impl.Task) []impl.Task {
	l = slices.Clone(l[:cap(l)])
	for i, x := range l {
		l[i].Nodes = x.Nodes[:cap(x.Nodes)]
	}
	return l
}

// markTasks writes a different number into each place of the nodes, also behind their ends, and reports whether each keeps its own.
func markTasks(l []impl.Task) bool {
	next := int64(1000)
	for _, x := range l {
		for i := range x.Nodes[:cap(x.Nodes)] {
			x.Nodes[:cap(x.Nodes)][i] = next
			next++
		}
	}
	least := int64(1000)
	for _, x := range l {
		for _, n := range x.Nodes[:cap(x.Nodes)] {
			if n != least {
				return false
			}
			least++
		}
	}
	return true
}

// wantTasksApart calls a function twice with the same list and writes into the first result: neither the second one nor the list may change.
func wantTasksApart(t *testing.T, what string, l []impl.Task, call func(l []impl.Task) []impl.Task) {
	t.Helper()
	arg := roomyTasks(l)
	before := cloneTasks(stretchedTasks(arg))
	first, second := call(arg), call(arg)
	kept := cloneTasks(second)
	if !reflect.DeepEqual(before, cloneTasks(stretchedTasks(arg))) {
		t.Errorf("%s changes its argument", what)
	}
	if !markTasks(first[:cap(first)]) {
		t.Errorf("%s: parts of the result share memory", what)
	}
	clear(first[:cap(first)])
	if !sameTasks(second, kept) {
		t.Errorf("%s: two results share memory", what)
	}
	if !reflect.DeepEqual(before, cloneTasks(stretchedTasks(arg))) {
		t.Errorf("%s: the result shares memory with the argument", what)
	}
}

func wantAllTasksApart(t *testing.T, l []impl.Task, x impl.Task) {
	t.Helper()
	wantTasksApart(t, "Orphans", l, impl.Orphans)
	wantTasksApart(t, "TaskOf", l, func(l []impl.Task) []impl.Task {
		return []impl.Task{impl.TaskOf(l, x.Label, x.Id)}
	})
	wantTasksApart(t, "TasksRight, LiveOf and TaskReady", l, func(l []impl.Task) []impl.Task {
		if impl.TasksRight(l) != plainTasksRight(l) || impl.LiveOf(l, x.Label) != plainLiveOf(l, x.Label) || impl.TaskReady(l, x) != plainTaskReady(l, x) {
			t.Errorf("another result for %+v with room behind its slices", fewTasks(l))
		}
		return nil
	})
	wantTasksApart(t, "TaskRight, TaskBytes and TaskReady", []impl.Task{x}, func(one []impl.Task) []impl.Task {
		if impl.TaskRight(one[0]) != plainTaskRight(x) || impl.TaskBytes(one[0]) != plainTaskBytes(x) || impl.TaskReady(l, one[0]) != plainTaskReady(l, x) {
			t.Errorf("another result for %+v with room behind its nodes", x)
		}
		return []impl.Task{impl.TaskRead(impl.TaskBytes(one[0]), 0).Task}
	})
}

func TestTasksShareNoMemory(t *testing.T) {
	r := rand.New(rand.NewPCG(17, 10))
	lists := [][]impl.Task{threeTasks(), manyTasks(96, 12), chainOf(label(1, 0), taskStates...), chainOf(label(0, 0), impl.TkOver, impl.TkWaits, impl.TkHeld)}
	for range 150 {
		lists = append(lists, mixedTasks(r), spoilTasks(r, mixedTasks(r)))
	}
	for _, l := range lists {
		wantAllTasksApart(t, l, task(label(0, 0), 1))
		for _, x := range l[:min(len(l), 6)] {
			wantAllTasksApart(t, l, x)
		}
	}
	wantAllTasksApart(t, nil, task(label(0, 0), 1))
	wantAllTasksApart(t, []impl.Task{}, taskIn(task(label(0, 0), 1), impl.TkRuns))
}

// TestOrphansKeepNoPlaces writes into the nodes that the tasks have before and after they are gone.
func TestOrphansKeepNoPlaces(t *testing.T) {
	low := label(0, 0)
	l := []impl.Task{taskIn(task(low, 1), impl.TkGone), after(taskAt(task(low, 2), 4, 3), low, 1), taskAt(task(low, 3), 5, 1)}
	got := impl.Orphans(l)
	if len(got[1].Nodes) != 0 || !slices.Equal(got[2].Nodes, []int64{1}) {
		t.Fatalf("Orphans of %+v = %+v", l, got)
	}
	got[2].Nodes[0] = 77
	if !slices.Equal(l[1].Nodes, []int64{3}) || !slices.Equal(l[2].Nodes, []int64{1}) {
		t.Errorf("the argument has become %+v", l)
	}
}

func TestWrongTasksAreKept(t *testing.T) {
	for _, l := range slices.Concat(wrongTaskLists(), tooManyTasks()) {
		wantAllTasksApart(t, l, task(label(0, 0), 1))
		if len(l) < 20 {
			wantAllTasksApart(t, l, l[len(l)-1])
		}
	}
}

// TestTasksKeepNoState reads and removes others between two calls, also where an error has been met.
func TestTasksKeepNoState(t *testing.T) {
	x := threeTasks()[2]
	text := impl.TaskBytes(x)
	for range 5 {
		wantTaskRead(t, text, 0, impl.TaskOut{Task: x, At: int64(len(text))})
		wantTaskRead(t, text, 1, plainTaskRead(text, 1))
		wantTaskCode(t, text[:4], 0, impl.ErrShort)
		wantOrphans(t, threeTasks(), threeTasks())
		impl.Orphans(chainOf(label(1, 5), impl.TkGone, impl.TkWaits))
		wantTaskOf(t, x, threeTasks(), x.Label, 1)
		wantTaskOf(t, impl.Task{}, nil, x.Label, 1)
	}
}
