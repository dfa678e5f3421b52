package tests

import (
	"math"
	"math/rand/v2"
	"slices"
	"testing"

	"loop.example/g00658/impl"
)

// wantYardSubmit compares YardSubmit with the document and with the code that is expected.
func wantYardSubmit(t *testing.T, code int64, y impl.Yard, a impl.Label, w impl.Wish) impl.YardOut {
	t.Helper()
	want := plainYardSubmit(y, a, w)
	if want.Code != code {
		t.Fatalf("the model gives %d for %+v of %+v in %+v, not %d", want.Code, w, a, fewOfYard(y), code)
	}
	got := impl.YardSubmit(y, a, w)
	wantYard(t, "YardSubmit", got, want)
	return got
}

// yardWith has a list of tasks and nothing else that a yard need not have, at time 9.
func yardWith(c impl.Config, tasks ...impl.Task) impl.Yard {
	y := emptyYard(c)
	y.Tasks, y.Now = tasks, 9
	return y
}

// sixNodes has six nodes for each of three labels, the last of which has the quota 9.
func sixNodes() impl.Config {
	low, middle, high := label(0, 0), label(1, 1), label(2, 3)
	return impl.Config{Nodes: alike(6, low, middle, high), Quotas: []impl.Quota{quota(high, 9)}, Half: 3}
}

func counted(w impl.Wish, count int64) impl.Wish {
	w.Count = count
	return w
}

func TestYardSubmit(t *testing.T) {
	low, middle, high := label(0, 0), label(1, 1), label(2, 3)
	y := yardWith(sixNodes())
	for _, c := range []struct {
		a     impl.Label
		w     impl.Wish
		first int64
	}{
		{middle, impl.Wish{Owner: "bob", Need: 2, Long: 3, Prio: 4, Count: 2}, 1},
		{high, impl.Wish{Owner: longName, Need: 6, Long: 20, Prio: 9, Under: middle, After: 2, Count: 3}, 1},
		{low, impl.Wish{Owner: "a", Need: 1, Long: 1, Prio: 0, Count: 4}, 1},
		{middle, impl.Wish{Owner: "ann", Need: 5, Long: 19, Prio: 1, Under: middle, After: 1, Count: 1}, 3},
		{low, impl.Wish{Owner: "z9", Need: 6, Long: 20, Prio: 9, Under: low, After: 4, Count: 2}, 5},
		{high, impl.Wish{Owner: "b", Need: 1, Long: 2, Prio: 3, Under: low, After: 6, Count: 1}, 4},
	} {
		y.Now++
		out := wantYardSubmit(t, impl.OK, y, c.a, c.w)
		if out.Id != c.first || len(out.Yard.Tasks) != len(y.Tasks)+int(c.w.Count) {
			t.Errorf("the first of %d tasks has the Id %d, want %d; there are %d tasks then", c.w.Count, out.Id, c.first, len(out.Yard.Tasks))
		}
		for id := c.first; id < c.first+c.w.Count; id++ {
			want := impl.Task{Label: c.a, Id: id, Owner: c.w.Owner, Need: c.w.Need, Long: c.w.Long, Prio: c.w.Prio, Under: c.w.Under, After: c.w.After, Born: y.Now, State: impl.TkWaits}
			if got := impl.TaskOf(out.Yard.Tasks, c.a, id); !sameTask(got, want) {
				t.Errorf("task %d is %+v, want %+v", id, got, want)
			}
		}
		y = out.Yard
	}
}

// TestYardSubmitKeepsTheRest looks at all parts of a yard that has much else.
func TestYardSubmitKeepsTheRest(t *testing.T) {
	low, high := label(0, 0), label(2, 1)
	want := busyYard()
	want.Tasks = slices.Insert(want.Tasks, 7, task(low, 8), task(low, 9))
	want.Tasks[7].Born, want.Tasks[8].Born = 9, 9
	wantYard(t, "YardSubmit", impl.YardSubmit(busyYard(), low, counted(wishFor(1), 2)), impl.YardOut{Yard: want, Id: 8})
	want = busyYard()
	want.Tasks = append(want.Tasks, after(task(high, 2), label(1, 1), 1))
	want.Tasks[11].Born = 9
	wantYard(t, "YardSubmit", impl.YardSubmit(busyYard(), high, wishAfter(wishFor(1), label(1, 1), 1)), impl.YardOut{Yard: want, Id: 2})
}

// TestYardSubmitAtAnyTime has tasks that are born at the first and the last current time.
func TestYardSubmitAtAnyTime(t *testing.T) {
	for _, now := range []int64{0, 1, lastBorn - 1, lastBorn} {
		y := yardWith(sixNodes())
		y.Now = now
		out := wantYardSubmit(t, impl.OK, y, label(0, 0), counted(wishFor(6), 4))
		if got := impl.TaskOf(out.Yard.Tasks, label(0, 0), 4).Born; got != now {
			t.Errorf("born at %d, want %d", got, now)
		}
	}
}

// TestYardSubmitCounts has each number of tasks of the label, all but a few of them over, and each count.
func TestYardSubmitCounts(t *testing.T) {
	low, high := label(0, 0), label(2, 3)
	for n := range 13 {
		for live := 0; live <= min(n, 9); live++ {
			tasks := tasksOf(low, 1, 2, 3)
			for i := range n {
				state := taskStates[3+i%3]
				if i >= n-live {
					state = []int64{impl.TkHeld, impl.TkWaits}[i%2]
				}
				tasks = append(tasks, taskIn(task(high, int64(i)+1), state))
			}
			y := yardWith(sixNodes(), tasks...)
			for count := int64(1); count <= 4; count++ {
				code := int64(impl.OK)
				switch {
				case int64(n)+count > 12:
					code = impl.ErrFull
				case int64(live)+count > 9:
					code = impl.ErrRange
				}
				if out := wantYardSubmit(t, code, y, high, counted(wishFor(1), count)); code == impl.OK && out.Id != int64(n)+1 {
					t.Errorf("behind %d tasks the Id is %d", n, out.Id)
				}
				// The tasks of another label do not count.
				code = impl.OK
				if count == 4 {
					code = impl.ErrRange
				}
				wantYardSubmit(t, code, y, low, counted(wishFor(1), count))
			}
		}
	}
}

// TestYardSubmitQuotas just reaches, and just passes, each quota.
func TestYardSubmitQuotas(t *testing.T) {
	low := label(0, 0)
	for most := int64(0); most <= 9; most++ {
		c := impl.Config{Nodes: alike(1, low), Half: 1}
		allowed := int64(6)
		if most > 0 {
			c.Quotas = []impl.Quota{quota(low, most)}
			allowed = most
		}
		for live := range allowed + 1 {
			y := yardWith(c, tasksOf(low, []int64{1, 2, 3, 4, 5, 6, 7, 8, 9}[:live]...)...)
			for count := int64(1); count <= 4; count++ {
				code := int64(impl.OK)
				switch {
				case live+count > 12:
					code = impl.ErrFull
				case live+count > allowed:
					code = impl.ErrRange
				}
				wantYardSubmit(t, code, y, low, counted(wishFor(1), count))
			}
		}
	}
	// A running task is live.
	y := yardWith(plainConfig(), placed(task(label(1, 1), 1), impl.TkRuns, 9, 1))
	wantYardSubmit(t, impl.ErrRange, y, label(1, 1), wishFor(1))
	y.Tasks[0] = taskIn(y.Tasks[0], impl.TkOver)
	wantYardSubmit(t, impl.OK, y, label(1, 1), wishFor(1))
	// One that waits with a reserved place is, too.
	y.Tasks[0] = placed(y.Tasks[0], impl.TkWaits, 12, 1)
	wantYardSubmit(t, impl.ErrRange, y, label(1, 1), wishFor(1))
}

// TestYardSubmitNodes has needs up to and beyond what is cleared for the label, whatever the state of the nodes and whoever runs there.
func TestYardSubmitNodes(t *testing.T) {
	for _, y := range []impl.Yard{emptyYard(plainConfig()), busyYard(), withYard(busyYard(), func(y *impl.Yard) { y.Nodes = fullNodes()[2:5] })} {
		for _, a := range append(allLabels(), wrongLabels()...) {
			for nodes := int64(1); nodes <= 6; nodes++ {
				code := int64(impl.OK)
				switch {
				case nodes > map[impl.Label]int64{label(0, 0): 2, label(1, 0): 2, label(1, 1): 1, label(2, 1): 1}[a]:
					code = impl.ErrLabel
				case a == label(1, 1) && len(y.Tasks) > 0:
					code = impl.ErrRange
				}
				wantYardSubmit(t, code, y, a, wishFor(nodes))
			}
		}
	}
	for n := 1; n <= 6; n++ {
		for nodes := int64(1); nodes <= 6; nodes++ {
			code := int64(impl.OK)
			if nodes > int64(n) {
				code = impl.ErrLabel
			}
			c := impl.Config{Nodes: append(alike(6-n, label(1, 0)), alike(n, label(0, 0))...), Half: 1}
			wantYardSubmit(t, code, yardWith(c), label(0, 0), wishFor(nodes))
		}
	}
}

// TestYardSubmitDependencies depends on any task that may or may not be there, in any state, of any label.
func TestYardSubmitDependencies(t *testing.T) {
	low, middle, side, high := label(0, 0), label(1, 0), label(1, 1), label(2, 1)
	y := busyYard()
	y.Tasks[9].After, y.Tasks[9].Under = 0, low
	y.Config.Quotas = nil
	for _, a := range plainLabelsOf(y.Config) {
		for _, under := range allLabels() {
			for id := int64(1); id <= 12; id++ {
				code := int64(impl.OK)
				switch {
				case !plainBelow(under, a):
					code = impl.ErrLabel
				case plainFind(y.Tasks, under, id) < 0:
					code = impl.ErrNone
				}
				wantYardSubmit(t, code, y, a, wishAfter(wishFor(1), under, id))
			}
		}
	}
	for _, state := range taskStates {
		x := taskIn(task(low, 1), state)
		if state == impl.TkRuns {
			x = placed(x, state, 9, 0)
		}
		for _, a := range []impl.Label{low, middle, side, high} {
			out := wantYardSubmit(t, impl.OK, yardWith(plainConfig(), x), a, wishAfter(wishFor(1), low, 1))
			// What depends on a task that is over or gone waits as others do, until time advances.
			if got := impl.TaskOf(out.Yard.Tasks, a, out.Id).State; got != impl.TkWaits {
				t.Errorf("state %d behind a task in state %d", got, state)
			}
		}
	}
}

// TestYardSubmitDependsOnNoTaskOfItsOwn names the tasks that are submitted by the same call.
func TestYardSubmitDependsOnNoTaskOfItsOwn(t *testing.T) {
	low := label(0, 0)
	for n := range 5 {
		y := yardWith(sixNodes(), tasksOf(low, 1, 2, 3, 4)[:n]...)
		for id := int64(1); id <= 8; id++ {
			code := int64(impl.OK)
			switch {
			case id > int64(n):
				code = impl.ErrNone
			case n+4 > 6:
				code = impl.ErrRange
			}
			wantYardSubmit(t, code, y, low, counted(wishAfter(wishFor(1), low, id), 4))
		}
	}
}

func TestYardSubmitOfWrongWishes(t *testing.T) {
	for _, w := range wrongWishes() {
		for _, a := range []impl.Label{label(0, 0), label(1, 1), label(2, 1), label(3, 7), label(4, 0)} {
			wantYardSubmit(t, impl.ErrForm, busyYard(), a, w)
		}
	}
	for _, n := range []int64{math.MinInt64, math.MaxInt64} {
		for field := range wishFields(&impl.Wish{}) {
			wantYardSubmit(t, impl.ErrForm, yardWith(sixNodes()), label(0, 0), withWishNum(wishAfter(wishFor(1), label(0, 0), 1), field, n))
		}
	}
}

// TestYardSubmitErrorsInOrder has what comes later in the order beside each error.
func TestYardSubmitErrorsInOrder(t *testing.T) {
	low, side, none := label(0, 0), label(1, 1), label(0, 4)
	// The label side has one node, 12 tasks, one of them live, and the quota 1.
	tasks := tasksOf(low, 1)
	for id := int64(1); id <= 11; id++ {
		tasks = append(tasks, taskIn(task(side, id), impl.TkOver))
	}
	y := yardWith(plainConfig(), append(tasks, task(side, 12))...)
	wantYardRight(t, true, y)
	wrong := withYard(y, func(y *impl.Yard) { y.Now = -1 })
	lost := wishAfter(wishFor(1), low, 2)
	above := wishAfter(wishFor(1), label(2, 1), 1)
	formless := withWishNum(lost, 1, 0)
	for _, a := range []impl.Label{low, side, none, label(4, 0)} {
		for _, w := range []impl.Wish{wishFor(1), wishFor(2), lost, above, formless, {}} {
			wantYardSubmit(t, impl.ErrForm, wrong, a, w)
		}
		wantYardSubmit(t, impl.ErrForm, y, a, formless)
		wantYardSubmit(t, impl.ErrForm, y, a, withWishNum(above, 0, 7))
		wantYardSubmit(t, impl.ErrForm, y, a, wishAfter(wishFor(6), label(4, 0), 1))
		wantYardSubmit(t, impl.ErrForm, y, a, wishAfter(wishFor(6), side, 0))
		// More nodes than are cleared, or a label that is not dominated, beside a task that is not there and a full label.
		wantYardSubmit(t, impl.ErrLabel, y, a, counted(wishAfter(wishFor(3), low, 2), 4))
		wantYardSubmit(t, impl.ErrLabel, y, a, counted(wishAfter(wishFor(1), label(2, 1), 12), 4))
		wantYardSubmit(t, impl.ErrLabel, y, a, counted(wishAfter(wishFor(3), low, 1), 4))
	}
	for _, a := range []impl.Label{none, label(2, 0), label(3, 7), label(4, 0), label(-1, -1)} {
		wantYardSubmit(t, impl.ErrLabel, y, a, lost)
		wantYardSubmit(t, impl.ErrLabel, y, a, wishFor(1))
	}
	wantYardSubmit(t, impl.ErrNone, y, side, counted(lost, 4))
	wantYardSubmit(t, impl.ErrNone, y, side, lost)
	wantYardSubmit(t, impl.ErrFull, y, side, counted(wishAfter(wishFor(1), low, 1), 1))
	wantYardSubmit(t, impl.ErrFull, y, side, wishFor(1))
	y.Tasks = y.Tasks[:11]
	y.Tasks[10] = task(side, 10)
	wantYardSubmit(t, impl.ErrRange, y, side, wishFor(1))
	wantYardSubmit(t, impl.ErrRange, y, side, counted(wishFor(1), 2))
	wantYardSubmit(t, impl.ErrFull, y, side, counted(wishFor(1), 3))
}

func TestYardSubmitToFullYards(t *testing.T) {
	y := fullYard()
	for _, a := range plainLabelsOf(y.Config) {
		wantYardSubmit(t, impl.ErrFull, y, a, wishFor(1))
		wantYardSubmit(t, impl.ErrFull, y, a, wishAfter(wishFor(1), a, 12))
	}
	// The last place of all.
	y.Tasks = y.Tasks[:95]
	last := y.Tasks[94].Label
	wantYardSubmit(t, impl.ErrFull, y, last, counted(wishFor(1), 2))
	out := wantYardSubmit(t, impl.OK, y, last, wishAfter(wishFor(1), last, 11))
	if out.Id != 12 || len(out.Yard.Tasks) != impl.MaxTasks {
		t.Errorf("task %d is the last one of %d", out.Id, len(out.Yard.Tasks))
	}
}

func TestYardSubmitToMixedYards(t *testing.T) {
	r := rand.New(rand.NewPCG(18, 3))
	count := map[int64]int{}
	for range 500 {
		y := mixedYard(r)
		if r.IntN(12) == 0 {
			spoilYard(r, &y)
		}
		for range 8 {
			a, w := mixedWish(r, y)
			code := plainYardSubmit(y, a, w).Code
			count[code]++
			wantYardSubmit(t, code, y, a, w)
		}
	}
	for _, code := range []int64{impl.OK, impl.ErrForm, impl.ErrLabel, impl.ErrNone, impl.ErrFull, impl.ErrRange} {
		if count[code] < 100 {
			t.Errorf("the codes are too much alike: %v", count)
		}
	}
}

// mixedWish makes a label and a wish that a yard takes or refuses.
func mixedWish(r *rand.Rand, y impl.Yard) (impl.Label, impl.Wish) {
	labels := append(plainLabelsOf(y.Config), allLabels()[r.IntN(32)])
	a := labels[r.IntN(len(labels))]
	w := impl.Wish{Owner: rightNames()[r.IntN(len(rightNames()))], Need: 1 + r.Int64N(int64(len(y.Nodes))), Long: 1 + r.Int64N(20), Prio: r.Int64N(10), Count: 1 + r.Int64N(4)}
	if r.IntN(2) == 0 {
		w = wishAfter(w, labels[r.IntN(len(labels))], 1+r.Int64N(12))
	}
	if r.IntN(10) == 0 {
		w = withWishNum(w, r.IntN(7), r.Int64N(30)-4)
	}
	return a, w
}
