package tests

import (
	"math/rand/v2"
	"slices"
	"testing"

	"loop.example/g00658/impl"
)

// taskCall is a function that changes one task, with what the document says of it.
type taskCall struct {
	name  string
	call  func(y impl.Yard, a impl.Label, id int64) impl.YardOut
	plain func(y impl.Yard, a impl.Label, id int64) impl.YardOut
}

func modifyCall(need int64, long int64, prio int64) taskCall {
	return taskCall{
		"YardModify",
		func(y impl.Yard, a impl.Label, id int64) impl.YardOut {
			return impl.YardModify(y, a, id, need, long, prio)
		},
		func(y impl.Yard, a impl.Label, id int64) impl.YardOut {
			return plainYardModify(y, a, id, need, long, prio)
		},
	}
}

func cancelCall() taskCall {
	return taskCall{"YardCancel", impl.YardCancel, plainYardCancel}
}

func holdCall() taskCall {
	return taskCall{"YardHold", impl.YardHold, plainYardHold}
}

func freeCall() taskCall {
	return taskCall{"YardFree", impl.YardFree, plainYardFree}
}

func finishCall() taskCall {
	return taskCall{"YardFinish", impl.YardFinish, plainYardFinish}
}

func taskCalls() []taskCall {
	return []taskCall{cancelCall(), holdCall(), freeCall(), finishCall(), modifyCall(1, 20, 9)}
}

// wantTaskCall compares a call with the document and with the code that is expected.
func wantTaskCall(t *testing.T, code int64, c taskCall, y impl.Yard, a impl.Label, id int64) impl.YardOut {
	t.Helper()
	want := c.plain(y, a, id)
	if want.Code != code {
		t.Fatalf("the model gives %d for %s of %+v %d in %+v, not %d", want.Code, c.name, a, id, fewOfYard(y), code)
	}
	got := c.call(y, a, id)
	wantYard(t, c.name, got, want)
	return got
}

// stateYard has one label with tasks in each state: one waits, one waits with a reserved place, one runs since now, one has run for an epoch, and the next ones are held, done, over and gone. The last one depends on the first one; others have other labels.
func stateYard() impl.Yard {
	low, a := label(0, 0), label(1, 1)
	tasks := tasksOf(a, 1, 2, 3, 4, 5, 6, 7, 8, 9)
	for i, state := range []int64{impl.TkWaits, impl.TkWaits, impl.TkRuns, impl.TkRuns, impl.TkHeld, impl.TkDone, impl.TkOver, impl.TkGone, impl.TkHeld} {
		tasks[i].State, tasks[i].Need, tasks[i].Long, tasks[i].Prio, tasks[i].Born = state, 2, 7, 5, int64(i)
		tasks[i].Owner = rightNames()[i]
	}
	tasks[1], tasks[2], tasks[3] = taskAt(tasks[1], 11, 1, 4), taskAt(tasks[2], 9, 0, 2), taskAt(tasks[3], 8, 4, 5)
	tasks[8] = after(tasks[8], a, 1)
	y := yardWith(sixNodes(), slices.Concat([]impl.Task{placed(task(low, 1), impl.TkRuns, 9, 1), task(low, 2)}, tasks, []impl.Task{after(task(label(2, 3), 1), a, 2)})...)
	y.Nodes[4], y.Nodes[5] = node(impl.NdDrains), node(impl.NdDown, 12, 15)
	y.Uses = []impl.Use{use(low, "ann", 5), use(a, "a", 7)}
	return y
}

// wantChanged expects that a call is done, and that nothing has changed but the state of one task, its place, and what change does.
func wantChanged(t *testing.T, c taskCall, id int64, state int64, change func(x *impl.Task)) {
	t.Helper()
	want := stateYard()
	x := &want.Tasks[1+id]
	x.State, x.Start, x.Nodes = state, 0, nil
	change(x)
	got := wantTaskCall(t, impl.OK, c, stateYard(), label(1, 1), id)
	wantYard(t, c.name, got, impl.YardOut{Yard: want})
}

// TestYardTurns has each call on each state.
func TestYardTurns(t *testing.T) {
	for _, c := range []struct {
		call taskCall
		to   int64
		done []int64
	}{
		{cancelCall(), impl.TkGone, []int64{1, 2, 3, 4, 5, 9}},
		{holdCall(), impl.TkHeld, []int64{1, 2}},
		{freeCall(), impl.TkWaits, []int64{5, 9}},
		// The third one runs, but its nodes are still sanitized.
		{finishCall(), impl.TkDone, []int64{4}},
	} {
		for id := int64(1); id <= 9; id++ {
			if slices.Contains(c.done, id) {
				wantChanged(t, c.call, id, c.to, func(x *impl.Task) {})
			} else {
				wantTaskCall(t, impl.ErrState, c.call, stateYard(), label(1, 1), id)
			}
		}
	}
}

func TestYardModify(t *testing.T) {
	for id := int64(1); id <= 9; id++ {
		for _, n := range [][3]int64{{1, 1, 0}, {2, 7, 5}, {6, 20, 9}, {3, 4, 5}} {
			c := modifyCall(n[0], n[1], n[2])
			if !slices.Contains([]int64{1, 2, 5, 9}, id) {
				wantTaskCall(t, impl.ErrState, c, stateYard(), label(1, 1), id)
				continue
			}
			// The state stays as it is, but a reserved place is lost even if nothing else changes.
			wantChanged(t, c, id, stateYard().Tasks[1+id].State, func(x *impl.Task) {
				x.Need, x.Long, x.Prio = n[0], n[1], n[2]
			})
		}
	}
}

func TestYardModifyLimits(t *testing.T) {
	nums := wrongNums()
	for n := int64(-2); n <= 23; n++ {
		nums = append(nums, n)
	}
	for _, n := range nums {
		for i, limits := range [][2]int64{{1, 6}, {1, 20}, {0, 9}} {
			args := [3]int64{2, 3, 4}
			args[i] = n
			code := int64(impl.ErrForm)
			if limits[0] <= n && n <= limits[1] {
				code = impl.OK
			}
			for _, id := range []int64{1, 2, 5} {
				wantTaskCall(t, code, modifyCall(args[0], args[1], args[2]), stateYard(), label(1, 1), id)
			}
			// What is wrong of itself is so for any task, and for none.
			if code == impl.ErrForm {
				for _, id := range []int64{-1, 0, 3, 6, 8, 10, 13} {
					wantTaskCall(t, code, modifyCall(args[0], args[1], args[2]), stateYard(), label(1, 1), id)
					wantTaskCall(t, code, modifyCall(args[0], args[1], args[2]), stateYard(), label(3, 7), id)
					wantTaskCall(t, code, modifyCall(args[0], args[1], args[2]), stateYard(), label(4, 0), id)
				}
			}
		}
	}
}

// TestYardModifyNodes asks for as many nodes as are cleared, and for one more.
func TestYardModifyNodes(t *testing.T) {
	for n := 1; n <= 6; n++ {
		for _, state := range []int64{impl.TkWaits, impl.TkHeld} {
			y := yardWith(impl.Config{Nodes: append(alike(6-n, label(1, 0)), alike(n, label(0, 0))...), Half: 1}, taskIn(task(label(0, 0), 1), state))
			for need := int64(1); need <= 6; need++ {
				code := int64(impl.OK)
				if need > int64(n) {
					code = impl.ErrLabel
				}
				wantTaskCall(t, code, modifyCall(need, 5, 5), y, label(0, 0), 1)
			}
		}
	}
	y := busyYard()
	wantTaskCall(t, impl.OK, modifyCall(2, 1, 0), y, label(0, 0), 7)
	wantTaskCall(t, impl.ErrLabel, modifyCall(3, 1, 0), y, label(0, 0), 7)
	wantTaskCall(t, impl.ErrLabel, modifyCall(2, 1, 0), y, label(1, 1), 1)
	wantTaskCall(t, impl.ErrLabel, modifyCall(2, 1, 0), y, label(2, 1), 1)
}

// TestYardModifyErrorsInOrder has what comes later in the order beside each error.
func TestYardModifyErrorsInOrder(t *testing.T) {
	y := busyYard()
	for id := int64(0); id <= 13; id++ {
		for _, a := range []impl.Label{label(0, 0), label(1, 1), label(0, 4), label(4, 0)} {
			wantTaskCall(t, impl.ErrForm, modifyCall(7, 1, 0), y, a, id)
			wantTaskCall(t, impl.ErrForm, modifyCall(6, 0, 0), y, a, id)
			wantTaskCall(t, impl.ErrForm, modifyCall(6, 1, 10), y, a, id)
			wantTaskCall(t, impl.ErrForm, modifyCall(6, 1, 0), withYard(y, func(y *impl.Yard) { y.Now = -1 }), a, id)
		}
		wantTaskCall(t, impl.ErrLabel, modifyCall(6, 1, 0), y, label(0, 4), id)
		wantTaskCall(t, impl.ErrLabel, modifyCall(6, 1, 0), y, label(4, 0), id)
	}
	for _, id := range []int64{-1, 0, 8, 12, 13} {
		wantTaskCall(t, impl.ErrNone, modifyCall(6, 1, 0), y, label(0, 0), id)
	}
	for _, id := range []int64{1, 2, 5, 6} {
		wantTaskCall(t, impl.ErrState, modifyCall(6, 1, 0), y, label(0, 0), id)
		wantTaskCall(t, impl.ErrState, modifyCall(3, 1, 0), y, label(0, 0), id)
	}
	for _, id := range []int64{3, 4, 7} {
		wantTaskCall(t, impl.ErrLabel, modifyCall(6, 1, 0), y, label(0, 0), id)
	}
}

// TestYardFinishAtAnyTime has a task that runs, from its first epoch to its last one.
func TestYardFinishAtAnyTime(t *testing.T) {
	low := label(0, 0)
	for _, start := range []int64{0, 1, 9, lastBorn - 20} {
		for long := int64(1); long <= 20; long++ {
			x := placed(task(low, 1), impl.TkRuns, start, 0, 1)
			x.Long = long
			for now := start; now <= start+long; now++ {
				y := withYard(emptyYard(plainConfig()), func(y *impl.Yard) { y.Now, y.Tasks = now, []impl.Task{x} })
				code := int64(impl.OK)
				if now == start {
					code = impl.ErrState
				}
				wantTaskCall(t, code, finishCall(), y, low, 1)
			}
		}
	}
}

// TestYardCallsOfNoTask has Ids below, between and above those that are there, and labels of the configuration with no task at all.
func TestYardCallsOfNoTask(t *testing.T) {
	for _, c := range taskCalls() {
		for _, id := range append(wrongNums(), -1, 0, 10, 11, 12, 13, 14) {
			wantTaskCall(t, impl.ErrNone, c, stateYard(), label(1, 1), id)
		}
		for id := int64(-1); id <= 14; id++ {
			wantTaskCall(t, impl.ErrNone, c, emptyYard(plainConfig()), label(1, 1), id)
			wantTaskCall(t, impl.ErrNone, c, yardWith(plainConfig(), tasksOf(label(0, 0), 1, 2, 3)...), label(1, 0), id)
		}
		wantTaskCall(t, impl.ErrNone, c, stateYard(), label(0, 0), 3)
		wantTaskCall(t, impl.ErrNone, c, stateYard(), label(2, 3), 2)
	}
}

// TestYardCallsOfNoLabel has all labels that the configuration lacks: an invalid label is none of its labels.
func TestYardCallsOfNoLabel(t *testing.T) {
	y := stateYard()
	for _, c := range taskCalls() {
		for _, a := range append(allLabels(), wrongLabels()...) {
			if slices.Contains(plainLabelsOf(y.Config), a) {
				continue
			}
			for _, id := range []int64{-1, 0, 1, 2, 5, 12, 13} {
				wantTaskCall(t, impl.ErrLabel, c, y, a, id)
				wantTaskCall(t, impl.ErrLabel, c, emptyYard(plainConfig()), label(3, 7), id)
			}
		}
	}
}

// TestYardCallsOnEveryTask has each place in a full list, with each call.
func TestYardCallsOnEveryTask(t *testing.T) {
	for _, y := range []impl.Yard{fullYard(), busyYard(), stateYard()} {
		for _, c := range append(taskCalls(), modifyCall(2, 3, 4), modifyCall(6, 1, 0)) {
			for _, x := range y.Tasks {
				code := c.plain(y, x.Label, x.Id).Code
				if code == impl.ErrNone || code == impl.ErrForm {
					t.Errorf("%s of a task that is there: the model gives %d", c.name, code)
				}
				wantTaskCall(t, code, c, y, x.Label, x.Id)
			}
		}
	}
}

// TestYardCallsKeepDependents has tasks that depend on one that is changed: they stay as they are until time advances.
func TestYardCallsKeepDependents(t *testing.T) {
	low := label(0, 0)
	for _, c := range []taskCall{cancelCall(), holdCall(), modifyCall(1, 2, 3)} {
		y := yardWith(plainConfig(), chainOf(low, impl.TkWaits, impl.TkWaits, impl.TkHeld)...)
		y.Tasks[1] = placed(y.Tasks[1], impl.TkWaits, 12, 0)
		out := wantTaskCall(t, impl.OK, c, y, low, 1)
		if !sameTasks(out.Yard.Tasks[1:], y.Tasks[1:]) {
			t.Errorf("%s: others have become %+v", c.name, out.Yard.Tasks[1:])
		}
	}
}

// TestYardCallsOneAfterTheOther takes a task through all states, and back.
func TestYardCallsOneAfterTheOther(t *testing.T) {
	low := label(0, 0)
	y := yardWith(plainConfig(), tasksOf(low, 1, 2)...)
	for _, c := range []taskCall{holdCall(), modifyCall(2, 4, 6), freeCall(), modifyCall(1, 2, 9), holdCall(), freeCall()} {
		y = wantTaskCall(t, impl.OK, c, y, low, 1).Yard
		wantTaskCall(t, impl.ErrState, finishCall(), y, low, 1)
	}
	for _, c := range []taskCall{cancelCall(), finishCall()} {
		at := withYard(y, func(y *impl.Yard) { y.Tasks[0] = placed(y.Tasks[0], impl.TkRuns, 8, 1) })
		at = wantTaskCall(t, impl.OK, c, at, low, 1).Yard
		// What has ended stays so.
		for _, next := range taskCalls() {
			wantTaskCall(t, impl.ErrState, next, at, low, 1)
		}
	}
}

func TestYardCallsOfWrongYards(t *testing.T) {
	for _, y := range wrongYards() {
		for _, c := range append(taskCalls(), modifyCall(7, 1, 0)) {
			for _, a := range []impl.Label{label(0, 0), label(0, 4), label(4, 0)} {
				wantYardCode(t, c.name, impl.ErrForm, c.call(y, a, 1))
			}
			wantYardCode(t, c.name, impl.ErrForm, c.call(y, label(0, 0), 13))
		}
	}
}

func TestYardCallsOfMixedYards(t *testing.T) {
	r := rand.New(rand.NewPCG(18, 4))
	count := map[string]map[int64]int{}
	for range 300 {
		y := mixedYard(r)
		if r.IntN(12) == 0 {
			spoilYard(r, &y)
		}
		labels := append(plainLabelsOf(y.Config), allLabels()[r.IntN(32)])
		for _, c := range append(taskCalls(), modifyCall(r.Int64N(8), 1+r.Int64N(20), r.Int64N(11))) {
			if count[c.name] == nil {
				count[c.name] = map[int64]int{}
			}
			for range 6 {
				a, id := labels[r.IntN(len(labels))], r.Int64N(14)
				code := c.plain(y, a, id).Code
				count[c.name][code]++
				wantTaskCall(t, code, c, y, a, id)
			}
		}
	}
	for name, codes := range count {
		for _, code := range []int64{impl.OK, impl.ErrForm, impl.ErrLabel, impl.ErrNone, impl.ErrState} {
			if codes[code] < 30 {
				t.Errorf("%s: the codes are too much alike: %v", name, codes)
			}
		}
	}
}
