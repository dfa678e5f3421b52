package tests

import (
	"math/rand/v2"
	"slices"
	"testing"

	"loop.example/g00658/impl"
)

func wantOrphans(t *testing.T, want []impl.Task, l []impl.Task) {
	t.Helper()
	got := impl.Orphans(l)
	if !sameTasks(got, want) || !sameTasks(got, plainOrphans(l)) {
		t.Errorf("Orphans(%d tasks, %+v) = %+v, want %+v", len(l), fewTasks(l), fewTasks(got), fewTasks(want))
	}
	if right := impl.TasksRight(got); !right {
		t.Errorf("Orphans(%d tasks, %+v) is no valid list: %+v", len(l), fewTasks(l), fewTasks(got))
	}
}

// wantStates expects that the tasks of a list have these states then, and that nothing else has changed but the places of those that are gone now.
func wantStates(t *testing.T, l []impl.Task, states ...int64) {
	t.Helper()
	want := cloneTasks(l)
	for i, state := range states {
		if want[i].State != state {
			want[i].State, want[i].Start, want[i].Nodes = state, 0, nil
		}
	}
	wantOrphans(t, want, l)
}

// TestOrphansOfTwo has a task of each state that depends on one of each state, of the same label or of another one.
func TestOrphansOfTwo(t *testing.T) {
	for _, first := range taskStates {
		for _, second := range taskStates {
			left := second
			if (first == impl.TkOver || first == impl.TkGone) && (second == impl.TkWaits || second == impl.TkHeld) {
				left = impl.TkGone
			}
			for _, a := range allLabels() {
				wantStates(t, chainOf(a, first, second), first, left)
				other := taskIn(task(label(3, 7), 1), second)
				if a != label(3, 7) {
					wantStates(t, []impl.Task{taskIn(task(a, 1), first), after(other, a, 1)}, first, left)
					wantStates(t, []impl.Task{taskIn(task(a, 1), first), other}, first, second)
				}
			}
			independent := chainOf(label(0, 1), first, second)
			independent[1] = after(independent[1], label(0, 0), 0)
			wantStates(t, independent, first, second)
		}
	}
}

// TestOrphansOfChains has every chain of four tasks: from one that is over or gone on, those behind it are gone up to the first one that neither waits nor is held.
func TestOrphansOfChains(t *testing.T) {
	for n := range 6 * 6 * 6 * 6 {
		states := []int64{taskStates[n%6], taskStates[n/6%6], taskStates[n/36%6], taskStates[n/216]}
		left := slices.Clone(states)
		lost := false
		for i, state := range states {
			if lost && (state == impl.TkWaits || state == impl.TkHeld) {
				left[i] = impl.TkGone
			} else {
				lost = state == impl.TkOver || state == impl.TkGone
			}
		}
		wantStates(t, chainOf(label(0, 0), states...), left...)
		wantStates(t, chainOf(label(2, 6), states...), left...)
	}
}

func TestOrphansOfLongChains(t *testing.T) {
	for _, first := range []int64{impl.TkOver, impl.TkGone, impl.TkDone, impl.TkRuns, impl.TkHeld, impl.TkWaits} {
		lost := first == impl.TkOver || first == impl.TkGone
		for _, second := range []int64{impl.TkWaits, impl.TkHeld} {
			l := chainOf(label(0, 0), slices.Repeat([]int64{second}, 12)...)
			l[0] = taskIn(l[0], first)
			left := slices.Repeat([]int64{second}, 96)
			left[0] = first
			// The chain goes on in other labels, up to the longest list.
			for _, a := range []impl.Label{label(0, 1), label(0, 3), label(0, 7), label(1, 7), label(2, 7), label(3, 7)} {
				more := chainOf(a, slices.Repeat([]int64{second}, 12)...)
				more[0] = after(more[0], l[len(l)-1].Label, 12)
				l = append(l, more...)
			}
			for i := range left[1:] {
				if lost {
					left[i+1] = impl.TkGone
				}
			}
			wantStates(t, l, left[:len(l)]...)
		}
	}
}

func TestOrphansOfManyOnOne(t *testing.T) {
	low, high := label(0, 0), label(2, 3)
	l := chainOf(low, impl.TkGone, impl.TkDone)
	l[1] = after(l[1], low, 0)
	for i, state := range taskStates {
		l = append(l, after(taskIn(task(high, int64(i)+1), state), low, 1))
	}
	for i, state := range taskStates {
		l = append(l, after(taskIn(task(high, int64(i)+7), state), low, 2))
	}
	gone := int64(impl.TkGone)
	wantStates(t, l, gone, impl.TkDone, gone, impl.TkRuns, gone, impl.TkDone, impl.TkOver, gone, impl.TkWaits, impl.TkRuns, impl.TkHeld, impl.TkDone, impl.TkOver, gone)
}

// TestOrphansLosePlaces has tasks with reserved places that are gone, and others that keep them.
func TestOrphansLosePlaces(t *testing.T) {
	low := label(0, 0)
	first := taskIn(task(low, 1), impl.TkOver)
	for _, nodes := range rising()[1:] {
		for _, start := range []int64{0, 1, impl.MaxTime} {
			x := taskAt(task(low, 2), start, nodes...)
			x.Need = int64(len(nodes))
			y := after(x, low, 1)
			wantOrphans(t, []impl.Task{first, x}, []impl.Task{first, x})
			gone := taskAt(y, 0)
			gone.State = impl.TkGone
			wantOrphans(t, []impl.Task{first, gone}, []impl.Task{first, y})
			y.State = impl.TkRuns
			wantOrphans(t, []impl.Task{first, y}, []impl.Task{first, y})
		}
	}
}

func TestOrphansOfNothing(t *testing.T) {
	wantOrphans(t, nil, nil)
	wantOrphans(t, nil, []impl.Task{})
	wantOrphans(t, threeTasks(), threeTasks())
	wantOrphans(t, manyTasks(96, 12), manyTasks(96, 12))
	wantOrphans(t, manyTasks(96, 3), manyTasks(96, 3))
	for _, l := range slices.Concat(wrongTaskLists(), tooManyTasks()) {
		wantOrphans(t, nil, l)
	}
}

// TestOrphansOfMixedTasks is the second half of promise 17: afterwards nothing that waits or is held depends on what is over or gone, and nothing else has changed.
func TestOrphansOfMixedTasks(t *testing.T) {
	r := rand.New(rand.NewPCG(17, 6))
	lost := 0
	for range 800 {
		l := mixedTasks(r)
		got := impl.Orphans(l)
		wantOrphans(t, got, l)
		wantOrphans(t, got, got)
		for i, x := range got {
			at := plainFind(got, x.Under, x.After)
			left := at >= 0 && got[at].State >= impl.TkOver
			if left && (x.State == impl.TkWaits || x.State == impl.TkHeld) {
				t.Errorf("%+v still depends on %+v", x, got[at])
			}
			if sameTask(x, l[i]) {
				continue
			}
			lost++
			kept := taskAt(l[i], 0)
			kept.State = impl.TkGone
			if !left || !sameTask(x, kept) || l[i].State != impl.TkWaits && l[i].State != impl.TkHeld {
				t.Errorf("%+v has become %+v", l[i], x)
			}
		}
		l = spoilTasks(r, l)
		wantOrphans(t, plainOrphans(l), l)
	}
	if lost < 1000 {
		t.Errorf("only %d tasks are gone", lost)
	}
}
