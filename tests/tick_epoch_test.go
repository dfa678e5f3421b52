package tests

import (
	"math"
	"math/rand/v2"
	"slices"
	"testing"

	"loop.example/g00658/impl"
)

// wantTick compares YardTick with the document and with the code that is expected.
func wantTick(t *testing.T, code int64, y impl.Yard) impl.YardOut {
	t.Helper()
	want := plainYardTick(y)
	if want.Code != code {
		t.Fatalf("the model gives %d for an epoch of %+v, not %d", want.Code, fewOfYard(y), code)
	}
	got := impl.YardTick(y)
	wantYard(t, "YardTick", got, want)
	return got
}

// wantTicked expects the tasks that a yard has after an epoch, and that its uses are these.
func wantTicked(t *testing.T, y impl.Yard, uses []impl.Use, tasks ...impl.Task) impl.Yard {
	t.Helper()
	got := wantTick(t, impl.OK, y).Yard
	if !sameTasks(got.Tasks, tasks) || !slices.Equal(got.Uses, uses) || got.Now != y.Now+1 {
		t.Errorf("after an epoch of %+v:\n got %+v, %v at %d\nwant %+v, %v", fewOfYard(y), fewTasks(got.Tasks), got.Uses, got.Now, fewTasks(tasks), uses)
	}
	return got
}

func TestYardTickOfTheExample(t *testing.T) {
	low, high := label(0, 0), label(1, 0)
	y := exampleYard(t)
	want := []impl.Task{ownedBy(onSince(low, 1, 2, 2, 0), "bob"), dueAt(high, 1, 4, 5, 0, 1)}
	want[0].Born = 1
	if !sameTasks(y.Tasks, want) || !slices.Equal(y.Uses, []impl.Use{use(high, "ann", 2)}) || y.Now != 2 {
		t.Errorf("the example has become %+v", y)
	}
	wantPlaces(t, y, going(low, 1, 2, 5, 0), starting(high, 1, 5, 10, 0, 1))
	three := wantTicks(t, impl.OK, y, 3).Yard
	wantStates(t, three.Tasks, impl.TkOver, impl.TkRuns)
}

// TestYardTickOfNone has yards in which nothing is to be done but to advance the time.
func TestYardTickOfNone(t *testing.T) {
	for _, y := range []impl.Yard{emptyYard(plainConfig()), emptyYard(fullConfig()), emptyYard(wide(8))} {
		wantTicked(t, y, nil)
		y.Tasks, y.Uses, y.Config.Pairs, y.Config.Quotas = []impl.Task{}, []impl.Use{}, []impl.Pair{}, []impl.Quota{}
		wantTicked(t, y, nil)
	}
	low := label(0, 0)
	still := []impl.Task{taskIn(task(low, 1), impl.TkHeld), taskIn(task(low, 2), impl.TkDone), taskIn(task(low, 3), impl.TkOver), taskIn(task(low, 4), impl.TkGone), after(taskIn(task(low, 5), impl.TkHeld), low, 1), after(task(low, 6), low, 1)}
	wantTicked(t, yardWith(plainConfig(), still...), nil, still...)
}

// TestYardTickLimits has the last times at which time can be advanced, and those at which there is no yard.
func TestYardTickLimits(t *testing.T) {
	low := label(0, 0)
	for _, y := range []impl.Yard{emptyYard(plainConfig()), yardWith(openTo(2, low), task(low, 1))} {
		for now, code := range map[int64]int64{0: impl.OK, 1: impl.OK, lastBorn - 2: impl.OK, lastBorn - 1: impl.OK, lastBorn: impl.ErrFull, lastBorn + 1: impl.ErrForm, impl.MaxTime: impl.ErrForm, -1: impl.ErrForm, math.MaxInt64: impl.ErrForm, math.MinInt64: impl.ErrForm} {
			out := wantTick(t, code, withYard(y, func(y *impl.Yard) { y.Now = now }))
			if code == impl.OK && out.Yard.Now != now+1 {
				t.Errorf("an epoch after %d, it is %d", now, out.Yard.Now)
			}
		}
	}
	// At the last time, too, tasks run and are planned to run later.
	late := yardWith(openTo(1, low), onSince(low, 1, 4, lastBorn-3, 0), asking(low, 2, 1, 20), asking(low, 3, 1, 20))
	late.Now = lastBorn - 1
	// What is recorded is halved at once, as the new time is a multiple of 4.
	wantTicked(t, late, nil, late.Tasks[0], dueAt(low, 2, 20, lastBorn+2, 0), dueAt(low, 3, 20, lastBorn+23, 0))
}

func TestYardTickOfWrongYards(t *testing.T) {
	for _, y := range wrongYards() {
		wantYardCode(t, "YardTick", impl.ErrForm, impl.YardTick(y))
		// It is wrong at the last time, too.
		last := withYard(y, func(y *impl.Yard) { y.Now = lastBorn })
		if !plainYardRight(last) {
			wantYardCode(t, "YardTick", impl.ErrForm, impl.YardTick(last))
		}
	}
}

// TestYardTickPlaces has each thing that a plan makes of a task.
func TestYardTickPlaces(t *testing.T) {
	low, high := label(0, 0), label(1, 0)
	// One goes on, one starts, one waits with a place, and one without.
	y := yardWith(openTo(3, low), onSince(low, 1, 9, 8, 1), asking(low, 2, 2, 20), asking(low, 3, 3, 20), asking(low, 4, 1, 1))
	wantTicked(t, y, []impl.Use{use(low, "ann", 1)}, y.Tasks[0], onSince(low, 2, 20, 10, 0, 2), dueAt(low, 3, 20, 31, 0, 1, 2), dueAt(low, 4, 1, 18, 1))
	y.Tasks = append(y.Tasks[:3:3], asking(low, 4, 1, 20), asking(low, 5, 3, 1))
	wantTicked(t, y, []impl.Use{use(low, "ann", 1)}, y.Tasks[0], onSince(low, 2, 20, 10, 0, 2), dueAt(low, 3, 20, 31, 0, 1, 2), asking(low, 4, 1, 20), asking(low, 5, 3, 1))
	// A reserved place has come: the task runs there. Another one is lost.
	y = yardWith(openTo(2, low), onSince(low, 1, 3, 6, 1), dueAt(low, 2, 4, 10, 1), dueAt(low, 3, 4, 10, 1), after(dueAt(low, 4, 1, 10, 0), low, 1))
	wantTicked(t, y, []impl.Use{use(low, "ann", 1)}, taskIn(asking(low, 1, 1, 3), impl.TkOver), onSince(low, 2, 4, 10, 1), onSince(low, 3, 4, 10, 0), taskIn(after(task(low, 4), low, 1), impl.TkGone))
	// One that runs is displaced: it waits with a place, waits without one, or starts again at once.
	for need, want := range map[int64]impl.Task{1: onSince(high, 1, 6, 10, 1, 2), 2: dueAt(high, 1, 6, 14, 0, 1), 3: dueAt(high, 1, 6, 14, 0, 1)} {
		displaced := yardWith(openTo(3, low, high), asking(low, 1, need, 3), onSince(high, 1, 6, 8, 0, 2))
		wantTicked(t, displaced, []impl.Use{use(high, "ann", 2)}, onSince(low, 1, 3, 10, []int64{0, 1, 2}[:need]...), want)
	}
	lost := yardWith(openTo(1, low, high), asking(low, 1, 1, 20), asking(low, 2, 1, 20), onSince(high, 1, 6, 8, 0))
	wantTicked(t, lost, []impl.Use{use(high, "ann", 1)}, onSince(low, 1, 20, 10, 0), dueAt(low, 2, 20, 31, 0), asking(high, 1, 1, 6))
	// One that will be displaced goes on for now, with its whole length.
	later := yardWith(openTo(2, low, high), onSince(low, 1, 4, 8, 0), dueAt(low, 2, 1, 20, 0, 1), onSince(high, 1, 9, 8, 1))
	wantTicked(t, later, []impl.Use{use(low, "ann", 1), use(high, "ann", 1)}, later.Tasks[0], dueAt(low, 2, 1, 13, 0, 1), later.Tasks[2])
}

// TestYardTickKeepsOtherStates: what neither runs nor waits is no part of a plan.
func TestYardTickKeepsOtherStates(t *testing.T) {
	low := label(0, 0)
	for _, state := range []int64{impl.TkHeld, impl.TkDone, impl.TkOver, impl.TkGone} {
		y := yardWith(openTo(1, low), taskIn(ranked(asking(low, 1, 1, 5), 9, 0), state), asking(low, 2, 1, 5))
		wantTicked(t, y, nil, y.Tasks[0], onSince(low, 2, 5, 10, 0))
	}
}

// TestYardTickEnds has a task whose span ends at the next epoch, or after it, those that depend on it, and a reservation that ends at the same time.
func TestYardTickEnds(t *testing.T) {
	low, high := label(0, 0), label(1, 0)
	for _, c := range [][2]int64{{8, 1}, {7, 2}, {0, 9}, {9, 1}, {8, 2}, {1, 9}} {
		x := onSince(low, 1, c[1], c[0], 1)
		ends := c[0] + 1 + c[1]
		y := yardWith(openTo(2, low, high), x, after(task(low, 2), low, 1), after(dueAt(low, 3, 1, 30, 0), low, 2), task(low, 4),
			after(taskIn(task(high, 1), impl.TkHeld), low, 2), after(task(high, 2), high, 1), after(taskIn(task(high, 3), impl.TkDone), low, 1))
		y.Nodes[0] = node(impl.NdUp, 3, ends, 30, 31)
		got := wantTick(t, impl.OK, y).Yard
		if !slices.Equal(got.Uses, []impl.Use{use(low, "ann", 1)}) {
			t.Errorf("the last epoch of a task is not recorded: %v", got.Uses)
		}
		if ends > 10 {
			wantStates(t, got.Tasks, impl.TkRuns, impl.TkWaits, impl.TkWaits, impl.TkWaits, impl.TkHeld, impl.TkWaits, impl.TkDone)
			if !slices.Equal(got.Nodes[0].Books, y.Nodes[0].Books) || !sameTask(got.Tasks[0], x) {
				t.Errorf("before its end at %d, a reservation is %v, and a task %+v", ends, got.Nodes[0].Books, got.Tasks[0])
			}
			continue
		}
		wantStates(t, got.Tasks, impl.TkOver, impl.TkGone, impl.TkGone, impl.TkRuns, impl.TkGone, impl.TkGone, impl.TkDone)
		if !slices.Equal(got.Nodes[0].Books, spans(30, 31)) || !slices.Equal(got.Tasks[3].Nodes, []int64{0}) {
			t.Errorf("at the end of a reservation, there are %v and %+v", got.Nodes[0].Books, got.Tasks[3])
		}
		for _, x := range got.Tasks {
			if x.State != impl.TkRuns && (x.Start != 0 || len(x.Nodes) != 0) {
				t.Errorf("%+v has a place", x)
			}
		}
	}
}

// TestYardTickFrees: what ends at an epoch, a task or a reservation, is free at the same epoch.
func TestYardTickFrees(t *testing.T) {
	low := label(0, 0)
	y := yardWith(openTo(2, low), onSince(low, 1, 4, 5, 0), asking(low, 2, 2, 3))
	y.Nodes[1] = node(impl.NdUp, 4, 10)
	wantTicked(t, y, []impl.Use{use(low, "ann", 1)}, taskIn(asking(low, 1, 1, 4), impl.TkOver), onSince(low, 2, 3, 10, 0, 1))
	y.Nodes[1] = node(impl.NdUp, 4, 11)
	wantTicked(t, y, []impl.Use{use(low, "ann", 1)}, taskIn(asking(low, 1, 1, 4), impl.TkOver), dueAt(low, 2, 3, 11, 0, 1))
	// The nodes of a task that is gone, too.
	y = yardWith(openTo(1, low), onSince(low, 1, 4, 5, 0), after(ranked(asking(low, 2, 1, 9), 9, 0), low, 1), asking(low, 3, 1, 3))
	wantTicked(t, y, []impl.Use{use(low, "ann", 1)}, taskIn(asking(low, 1, 1, 4), impl.TkOver), taskIn(after(ranked(asking(low, 2, 1, 9), 9, 0), low, 1), impl.TkGone), onSince(low, 3, 3, 10, 0))
}

// TestYardTickUses: the epoch before is recorded for those that ran in it, and halved afterwards if it is time.
func TestYardTickUses(t *testing.T) {
	low, high := label(0, 0), label(1, 0)
	y := yardWith(openTo(6, low, high), ownedBy(onSince(low, 1, 9, 9, 0, 1, 2), "bob"), ownedBy(onSince(low, 2, 1, 8, 3), "ann"), ownedBy(task(low, 3), "cy"), ownedBy(taskIn(task(low, 4), impl.TkHeld), "dan"), ownedBy(onSince(high, 1, 9, 8, 4, 5), "bob"))
	y.Uses = []impl.Use{use(low, "bob", 4), use(high, "ann", 1)}
	y.Config.Half = 3
	added := []impl.Use{use(low, "ann", 1), use(low, "bob", 7), use(high, "ann", 1), use(high, "bob", 2)}
	got := wantTick(t, impl.OK, y).Yard
	if !slices.Equal(got.Uses, added) {
		t.Errorf("after an epoch that halves nothing: %v", got.Uses)
	}
	for half := int64(1); half <= 9; half++ {
		for now := int64(8); now <= 30; now++ {
			y.Config.Half, y.Now = half, now
			if !plainYardRight(y) {
				continue
			}
			want := added
			if (now+1)%half == 0 {
				want = []impl.Use{use(low, "bob", 3), use(high, "bob", 1)}
			}
			if got := wantTick(t, impl.OK, y).Yard; !slices.Equal(got.Uses, want) {
				t.Errorf("after %d with half %d: %v, want %v", now, half, got.Uses, want)
			}
		}
	}
}

// TestYardTickUsesInListOrder has one more owner than a label may have, and those that have used as much as is recorded.
func TestYardTickUsesInListOrder(t *testing.T) {
	low := label(0, 0)
	y := yardWith(openTo(4, low), ranked(ownedBy(onSince(low, 1, 9, 9, 3), "zoe"), 0, 9), ranked(ownedBy(onSince(low, 2, 9, 9, 0, 1), "ann"), 9, 0), ownedBy(onSince(low, 3, 9, 9, 2), "u1"))
	for _, owner := range []string{"u1", "u2", "u3", "u4", "u5"} {
		y.Uses = append(y.Uses, use(low, owner, impl.MaxUse))
	}
	got := wantTick(t, impl.OK, y).Yard
	if want := append(slices.Clone(y.Uses), use(low, "zoe", 1)); !slices.Equal(got.Uses, want) {
		t.Errorf("one more owner: %v, want %v", got.Uses, want)
	}
	y.Uses = append(y.Uses, use(low, "u6", 5))
	if got := wantTick(t, impl.OK, y).Yard; !slices.Equal(got.Uses, y.Uses) {
		t.Errorf("two more owners than there may be: %v, want %v", got.Uses, y.Uses)
	}
}

// TestYardTickRanks: the order is that of the new time, and of the uses as they are then.
func TestYardTickRanks(t *testing.T) {
	low := label(0, 0)
	// One epoch of its owner's own makes the difference.
	y := yardWith(openTo(2, low), ownedBy(onSince(low, 1, 1, 8, 0, 1), "ann"), ownedBy(asking(low, 2, 2, 5), "ann"), ownedBy(asking(low, 3, 2, 5), "bob"))
	y.Uses = []impl.Use{use(low, "bob", 1)}
	got := wantTick(t, impl.OK, y).Yard
	wantStates(t, got.Tasks, impl.TkOver, impl.TkWaits, impl.TkRuns)
	y.Uses[0].Used = 3
	got = wantTick(t, impl.OK, y).Yard
	wantStates(t, got.Tasks, impl.TkOver, impl.TkRuns, impl.TkWaits)
	// So does halving: 3 and 2 become 1 and 1.
	y = yardWith(openTo(2, low), ownedBy(asking(low, 1, 2, 5), "ann"), ownedBy(asking(low, 2, 2, 5), "bob"))
	y.Uses = []impl.Use{use(low, "ann", 3), use(low, "bob", 2)}
	wantStates(t, wantTick(t, impl.OK, y).Yard.Tasks, impl.TkWaits, impl.TkRuns)
	y.Config.Half = 5
	wantStates(t, wantTick(t, impl.OK, y).Yard.Tasks, impl.TkRuns, impl.TkWaits)
	// An age that is 50 now is not more than one that is 50 at the next epoch.
	y = yardWith(openTo(1, low), ranked(asking(low, 1, 1, 5), 0, 51), ranked(asking(low, 2, 1, 5), 0, 50))
	y.Now = 100
	wantStates(t, wantTick(t, impl.OK, y).Yard.Tasks, impl.TkRuns, impl.TkWaits)
	y.Now = 99
	wantStates(t, wantTick(t, impl.OK, y).Yard.Tasks, impl.TkWaits, impl.TkRuns)
}

// TestYardTickOfMixedYards compares with the document's text; what is not refused is a valid yard.
func TestYardTickOfMixedYards(t *testing.T) {
	r := rand.New(rand.NewPCG(15, 5))
	count := map[int64]int{}
	for _, y := range []impl.Yard{busyYard(), fullYard(), stateYard(), runYard()} {
		wantTick(t, impl.OK, y)
	}
	for range 1500 {
		y := tickYard(r)
		if r.IntN(6) == 0 {
			spoilYard(r, &y)
		}
		code := plainYardTick(y).Code
		count[code]++
		wantTick(t, code, y)
	}
	for _, code := range []int64{impl.OK, impl.ErrForm, impl.ErrFull} {
		if count[code] < 50 {
			t.Errorf("the codes are too much alike: %v", count)
		}
	}
}

// wantTicks compares YardTicks with the document and with the code that is expected.
func wantTicks(t *testing.T, code int64, y impl.Yard, n int64) impl.YardOut {
	t.Helper()
	want := plainYardTicks(y, n)
	if want.Code != code {
		t.Fatalf("the model gives %d for %d epochs of %+v, not %d", want.Code, n, fewOfYard(y), code)
	}
	got := impl.YardTicks(y, n)
	wantYard(t, "YardTicks", got, want)
	return got
}

func TestYardTicksLimits(t *testing.T) {
	low := label(0, 0)
	y := yardWith(openTo(2, low), asking(low, 1, 1, 20), asking(low, 2, 2, 20), asking(low, 3, 1, 3))
	for n := int64(1); n <= 50; n++ {
		if got := wantTicks(t, impl.OK, y, n).Yard; got.Now != 9+n {
			t.Errorf("after %d epochs from 9 on, it is %d", n, got.Now)
		}
	}
	for _, n := range append(wrongNums(), -50, -2, -1, 0, 51, 52, 100) {
		wantTicks(t, impl.ErrRange, y, n)
		// The number is looked at first: before a wrong yard, and before one whose time is over.
		wantTicks(t, impl.ErrRange, withYard(y, func(y *impl.Yard) { y.Now = -1 }), n)
		wantTicks(t, impl.ErrRange, withYard(y, func(y *impl.Yard) { y.Now = lastBorn }), n)
	}
	for _, wrong := range wrongYards() {
		wantYardCode(t, "YardTicks", impl.ErrRange, impl.YardTicks(wrong, 0))
		wantYardCode(t, "YardTicks", impl.ErrRange, impl.YardTicks(wrong, 51))
		wantYardCode(t, "YardTicks", impl.ErrForm, impl.YardTicks(wrong, 1))
		wantYardCode(t, "YardTicks", impl.ErrForm, impl.YardTicks(wrong, 50))
	}
}

// TestYardTicksInTheMiddle has an error before the last epoch: nothing is left of those before it.
func TestYardTicksInTheMiddle(t *testing.T) {
	low := label(0, 0)
	y := yardWith(openTo(2, low), asking(low, 1, 1, 20), asking(low, 2, 2, 20))
	for _, left := range []int64{0, 1, 2, 7, 49, 50} {
		y.Now = lastBorn - left
		for n := int64(1); n <= 50; n++ {
			code := int64(impl.OK)
			if n > left {
				code = impl.ErrFull
			}
			wantTicks(t, code, y, n)
		}
	}
}
