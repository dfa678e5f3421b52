package tests

import (
	"math/rand/v2"
	"slices"
	"testing"

	"loop.example/g00658/impl"
)

// fitWish makes a wish of a label that is rarely refused; every third one depends on a task that is there.
func fitWish(r *rand.Rand, y impl.Yard, a impl.Label) impl.Wish {
	nodes := int64(len(plainNodesFor(y.Config, a)))
	w := impl.Wish{Owner: rightNames()[r.IntN(7)], Need: 1 + r.Int64N(nodes), Long: 1 + r.Int64N(1+r.Int64N(20)), Prio: r.Int64N(3), Count: 1 + r.Int64N(2)}
	below := slices.DeleteFunc(slices.Clone(y.Tasks), func(x impl.Task) bool { return !plainBelow(x.Label, a) })
	if len(below) > 0 && r.IntN(3) == 0 {
		x := below[r.IntN(len(below))]
		w = wishAfter(w, x.Label, x.Id)
	}
	return w
}

// deed is what happens in an execution: a call of a user with a label, an epoch, or a call of the administrator.
type deed struct {
	yardCall
	label  impl.Label
	isUser bool
}

func tickDeed() deed {
	return deed{yardCall: yardCall{"YardTick", impl.YardTick, plainYardTick}}
}

// userDeed makes an epoch, or a call of a user.
func userDeed(r *rand.Rand, y impl.Yard) deed {
	labels := plainLabelsOf(y.Config)
	a := labels[r.IntN(len(labels))]
	switch k := r.IntN(10); {
	case k < 4:
		return tickDeed()
	case k < 8 || len(y.Tasks) == 0:
		w := fitWish(r, y, a)
		c := yardCall{"YardSubmit", func(y impl.Yard) impl.YardOut { return impl.YardSubmit(y, a, w) }, func(y impl.Yard) impl.YardOut { return plainYardSubmit(y, a, w) }}
		return deed{c, a, true}
	}
	x := y.Tasks[r.IntN(len(y.Tasks))]
	for range 5 {
		if x.State > impl.TkHeld {
			x = y.Tasks[r.IntN(len(y.Tasks))]
		}
	}
	c := fitCall(r, y, x)
	return deed{yardCall{c.name, func(y impl.Yard) impl.YardOut { return c.call(y, x.Label, x.Id) }, func(y impl.Yard) impl.YardOut { return c.plain(y, x.Label, x.Id) }}, x.Label, true}
}

// fitCall makes a call on a task, mostly one that its state permits.
func fitCall(r *rand.Rand, y impl.Yard, x impl.Task) taskCall {
	w := fitWish(r, y, x.Label)
	calls := []taskCall{cancelCall(), modifyCall(w.Need, w.Long, w.Prio)}
	switch x.State {
	case impl.TkWaits:
		calls = append(calls, holdCall(), finishCall())
	case impl.TkRuns:
		calls = append(calls, finishCall(), finishCall(), finishCall(), holdCall())
	case impl.TkHeld:
		calls = append(calls, freeCall(), freeCall(), finishCall())
	}
	return calls[r.IntN(len(calls))]
}

// anyDeed makes an epoch, or a call of a user or of the administrator.
func anyDeed(r *rand.Rand, y impl.Yard) deed {
	n, state := r.Int64N(int64(len(y.Nodes))), 1+r.Int64N(3)
	from := y.Now + 1 + r.Int64N(20)
	x := span(from, from+1+r.Int64N(8))
	switch r.IntN(16) {
	case 0:
		return deed{yardCall: yardCall{"YardNode", func(y impl.Yard) impl.YardOut { return impl.YardNode(y, n, state) }, func(y impl.Yard) impl.YardOut { return plainYardNode(y, n, state) }}}
	case 1:
		return deed{yardCall: yardCall{"YardNode", func(y impl.Yard) impl.YardOut { return impl.YardNode(y, n, impl.NdUp) }, func(y impl.Yard) impl.YardOut { return plainYardNode(y, n, impl.NdUp) }}}
	case 2:
		return deed{yardCall: yardCall{"YardBook", func(y impl.Yard) impl.YardOut { return impl.YardBook(y, n, x) }, func(y impl.Yard) impl.YardOut { return plainYardBook(y, n, x) }}}
	}
	return userDeed(r, y)
}

// change is a call that is done, with the yards before and after it.
type change struct {
	name   string
	before impl.Yard
	after  impl.Yard
}

// newYards has a new yard for each of many configurations.
func newYards(r *rand.Rand, n int) []impl.Yard {
	var l []impl.Yard
	for range n {
		l = append(l, impl.YardNew(mixedConfig(r)).Yard)
	}
	return l
}

// execute makes so many calls, one after the other, from each yard on, and shows those that are done.
func execute(r *rand.Rand, yards []impl.Yard, steps int, next func(r *rand.Rand, y impl.Yard) deed, see func(c change)) {
	for _, y := range yards {
		for range steps {
			c := next(r, y)
			if out := c.call(y); out.Code == impl.OK {
				see(change{c.name, y, out.Yard})
				y = out.Yard
			}
		}
	}
}

// TestExecutionsAreRight compares all calls of whole executions with the document's text: promise 18 with epochs between the calls.
func TestExecutionsAreRight(t *testing.T) {
	r := rand.New(rand.NewPCG(15, 6))
	done, refused := map[string]int{}, map[string]int{}
	for _, y := range newYards(r, 60) {
		for range 80 {
			c := anyDeed(r, y)
			got := c.call(y)
			wantYard(t, c.name, got, c.plain(y))
			if got.Code != impl.OK {
				refused[c.name]++
				continue
			}
			done[c.name]++
			y = got.Yard
		}
	}
	for _, name := range []string{"YardTick", "YardSubmit", "YardCancel", "YardHold", "YardFree", "YardFinish", "YardModify", "YardNode", "YardBook"} {
		if done[name] < 20 {
			t.Errorf("the calls are too much alike: done %v, refused %v", done, refused)
		}
	}
}

// TestPlansAreRight is promise 19, over whole executions.
func TestPlansAreRight(t *testing.T) {
	r := rand.New(rand.NewPCG(19, 1))
	count := map[string]int{}
	execute(r, newYards(r, 100), 80, anyDeed, func(c change) {
		plan := impl.YardPlan(c.after)
		wantPlacesRight(t, c.after, plan)
		countPlaces(count, c.after, plan)
	})
	for _, kind := range []string{"stays", "stays for less", "is displaced", "keeps its place", "moves forward", "loses its place", "starts", "waits", "has none"} {
		if count[kind] < 50 {
			t.Errorf("the plans are too much alike: %v", count)
		}
	}
}

// isLowest reports whether no other label below that of a task has tasks.
func isLowest(y impl.Yard, x impl.Task) bool {
	return !slices.ContainsFunc(y.Tasks, func(u impl.Task) bool { return u.Label != x.Label && plainBelow(u.Label, x.Label) })
}

// TestReservedPlacesAreKept is promise 21: nobody but users call, and one whose place is reserved runs at that time or has an earlier place.
func TestReservedPlacesAreKept(t *testing.T) {
	r := rand.New(rand.NewPCG(21, 1))
	count := map[string]int{}
	execute(r, newYards(r, 200), 80, userDeed, func(c change) {
		for _, x := range c.before.Tasks {
			u := plainTaskOf(c.after.Tasks, x.Label, x.Id)
			modified := u.State != impl.TkWaits && u.State != impl.TkRuns || c.name == "YardModify" && len(u.Nodes) == 0
			switch {
			case x.State != impl.TkWaits || len(x.Nodes) == 0 || !isLowest(c.after, x) || modified:
				continue
			case len(u.Nodes) == 0 || u.Start > x.Start:
				t.Errorf("%s makes %+v of %+v, though no other label is below it in %+v", c.name, u, x, fewOfYard(c.after))
			case u.State == impl.TkRuns:
				count["runs"]++
			case u.Start < x.Start:
				count["earlier"]++
			case c.name == "YardTick":
				count["kept"]++
			}
		}
	})
	if count["runs"] < 100 || count["earlier"] < 100 || count["kept"] < 100 {
		t.Errorf("the places are too much alike: %v", count)
	}
}

// TestReservedPlaceIsKept is promise 21 on one case: one more of its label, however urgent, does not come before it, and one of a lower label does.
func TestReservedPlaceIsKept(t *testing.T) {
	low, high := label(0, 0), label(1, 0)
	y := yardWith(openTo(2, low, high), onSince(high, 1, 8, 9, 0), dueAt(high, 2, 5, 18, 0, 1), ranked(asking(high, 3, 2, 1), 9, 0))
	wantTicked(t, y, []impl.Use{use(high, "ann", 1)}, y.Tasks[0], y.Tasks[1], ranked(dueAt(high, 3, 1, 24, 0, 1), 9, 0))
	y.Tasks = append([]impl.Task{asking(low, 1, 1, 14)}, y.Tasks[0], y.Tasks[1])
	y.Tasks[1].Nodes = []int64{1}
	wantTicked(t, y, []impl.Use{use(high, "ann", 1)}, onSince(low, 1, 14, 10, 0), y.Tasks[1], dueAt(high, 2, 5, 25, 0, 1))
}

// TestNewNodesAreSanitized is promise 22.
func TestNewNodesAreSanitized(t *testing.T) {
	r := rand.New(rand.NewPCG(22, 1))
	count := map[string]int{}
	see := func(c change) {
		for _, x := range c.after.Tasks {
			old := plainTaskOf(c.before.Tasks, x.Label, x.Id)
			if c.name != "YardTick" || x.State != impl.TkRuns {
				continue
			}
			finish := wantTaskCall(t, finishCode(c.after, x), finishCall(), c.after, x.Label, x.Id)
			if old.State == impl.TkRuns && sameTask(old, x) {
				count["goes on"]++
				if finish.Code != impl.OK {
					t.Errorf("%+v cannot be finished at %d, though it has its nodes from before", x, c.after.Now)
				}
				continue
			}
			count["starts"]++
			count["starts again"] += btoi(old.State == impl.TkRuns)
			if x.Start != c.after.Now || finish.Code != impl.ErrState {
				t.Errorf("%+v has been %+v, and may be finished at %d with code %d", x, old, c.after.Now, finish.Code)
			}
		}
	}
	execute(r, newYards(r, 60), 80, anyDeed, see)
	for range 1000 {
		y := tickYard(r)
		if out := impl.YardTick(y); out.Code == impl.OK {
			see(change{"YardTick", y, out.Yard})
		}
	}
	if count["goes on"] < 100 || count["starts"] < 100 || count["starts again"] < 20 {
		t.Errorf("the epochs are too much alike: %v", count)
	}
}

// finishCode is what the document says of finishing a task that runs.
func finishCode(y impl.Yard, x impl.Task) int64 {
	if x.Start == y.Now {
		return impl.ErrState
	}
	return impl.OK
}

// TestSeveralEpochs is promise 23: for all numbers of epochs, and all ways to divide them.
func TestSeveralEpochs(t *testing.T) {
	r := rand.New(rand.NewPCG(23, 1))
	count := map[int64]int{}
	for range 60 {
		y := tickYard(r)
		single := impl.YardOut{Yard: y}
		most := 1 + r.Int64N(50)
		for n := int64(1); n <= most; n++ {
			if single.Code == impl.OK {
				single = impl.YardTick(single.Yard)
			}
			count[single.Code]++
			wantYard(t, "YardTicks", impl.YardTicks(y, n), single)
		}
		if most == 1 {
			continue
		}
		first := 1 + r.Int64N(most-1)
		parts := impl.YardTicks(y, first)
		if parts.Code == impl.OK {
			parts = impl.YardTicks(parts.Yard, most-first)
		}
		wantYard(t, "YardTicks of YardTicks", parts, single)
	}
	if count[impl.OK] < 100 || count[impl.ErrFull] < 100 {
		t.Errorf("the epochs are too much alike: %v", count)
	}
}

// TestLessUsedComesFirst is promise 24: two tasks that differ in their owners only, beside others, where the nodes are not enough for both.
func TestLessUsedComesFirst(t *testing.T) {
	low := label(0, 0)
	r := rand.New(rand.NewPCG(24, 1))
	differ := 0
	for range 2000 {
		less := r.Int64N(90)
		more := less + 1 + r.Int64N(100)
		owners := []string{"ann", "bob"}
		uses := map[string]int64{"ann": less, "bob": more}
		if r.IntN(2) == 0 {
			uses = map[string]int64{"ann": more, "bob": less}
		}
		nodes := 1 + r.Int64N(4)
		x := ranked(asking(low, 1, 1+r.Int64N(nodes), 1+r.Int64N(9)), r.Int64N(3), r.Int64N(9))
		other := ranked(asking(low, 2, 1+r.Int64N(nodes), 1+r.Int64N(9)), r.Int64N(3), r.Int64N(9))
		last := x
		last.Id = 3
		y := yardWith(openTo(int(nodes), low), ownedBy(x, owners[0]), ownedBy(other, "cy"), ownedBy(last, owners[1]))
		for _, owner := range owners {
			if uses[owner] > 0 {
				y.Uses = append(y.Uses, use(low, owner, uses[owner]))
			}
		}
		firstId := int64(1)
		if uses["bob"] < uses["ann"] {
			firstId = 3
		}
		differ += wantFirst(t, y, firstId, 4-firstId)
	}
	if differ < 500 {
		t.Errorf("only %d of the tasks come before another one", differ)
	}
}

// wantFirst expects that one of two tasks of 0: is assigned its nodes before the other one, and runs no later. It counts the cases in which it is earlier.
func wantFirst(t *testing.T, y impl.Yard, first int64, second int64) int {
	t.Helper()
	plan := impl.YardPlan(y)
	at := func(id int64) int {
		return slices.IndexFunc(plan, func(s impl.Place) bool { return s.Id == id })
	}
	i, k := at(first), at(second)
	if i < 0 || i > k && k >= 0 || k >= 0 && plan[i].From > plan[k].From {
		t.Errorf("task %d has not been assigned its nodes before task %d: %+v in %+v", first, second, plan, fewOfYard(y))
		return 0
	}
	ticked := impl.YardTick(y).Yard.Tasks
	if ticked[second-1].State == impl.TkRuns && ticked[first-1].State != impl.TkRuns {
		t.Errorf("task %d runs before task %d: %+v", second, first, fewTasks(ticked))
	}
	return btoi(k < 0 || plan[i].From < plan[k].From)
}

// TestDependents is promise 25, over whole executions.
func TestDependents(t *testing.T) {
	r := rand.New(rand.NewPCG(25, 1))
	count := map[int64]int{}
	execute(r, newYards(r, 150), 80, anyDeed, func(c change) {
		plan := impl.YardPlan(c.after)
		for _, x := range c.after.Tasks {
			if x.After == 0 {
				continue
			}
			under := plainTaskOf(c.after.Tasks, x.Under, x.After)
			planned := slices.ContainsFunc(plan, func(s impl.Place) bool { return s.Label == x.Label && s.Id == x.Id })
			if under.State != impl.TkDone && (planned || len(x.Nodes) > 0) {
				t.Errorf("%+v has a place, though it depends on %+v", x, under)
			}
			old := plainTaskOf(c.before.Tasks, x.Label, x.Id)
			if c.name != "YardTick" || old.State != impl.TkWaits && old.State != impl.TkHeld {
				continue
			}
			count[under.State]++
			if ended := under.State == impl.TkOver || under.State == impl.TkGone; ended != (x.State == impl.TkGone) {
				t.Errorf("%+v has become %+v, and depends on %+v", old, x, under)
			}
		}
	})
	for _, state := range taskStates {
		if count[state] < 20 {
			t.Errorf("the tasks that others depend on are too much alike: %v", count)
		}
	}
}

// TestDependentIsReady is promise 25 on one case, from one epoch to the next.
func TestDependentIsReady(t *testing.T) {
	low := label(0, 0)
	y := yardWith(openTo(2, low), onSince(low, 1, 9, 8, 0), after(asking(low, 2, 1, 3), low, 1))
	y = wantTicked(t, y, []impl.Use{use(low, "ann", 1)}, y.Tasks...)
	done := wantTaskCall(t, impl.OK, finishCall(), y, low, 1).Yard
	wantTicked(t, done, []impl.Use{use(low, "ann", 1)}, taskIn(asking(low, 1, 1, 9), impl.TkDone), after(onSince(low, 2, 3, 11, 0), low, 1))
	gone := wantTaskCall(t, impl.OK, cancelCall(), y, low, 1).Yard
	wantStates(t, wantTick(t, impl.OK, gone).Yard.Tasks, impl.TkGone, impl.TkGone)
	over := wantTicks(t, impl.OK, y, 8).Yard
	wantStates(t, over.Tasks, impl.TkOver, impl.TkGone)
	wantStates(t, wantTicks(t, impl.OK, y, 7).Yard.Tasks, impl.TkRuns, impl.TkWaits)
}

func reservedAt(d impl.Node, at int64) bool {
	return slices.ContainsFunc(d.Books, func(b impl.Span) bool { return b.From <= at && at < b.To })
}

// TestClosedNodes is promises 26 and 27, over whole executions, and from yards on that do not come of calls.
func TestClosedNodes(t *testing.T) {
	r := rand.New(rand.NewPCG(26, 1))
	count := map[string]int{}
	see := func(c change) {
		for _, x := range c.after.Tasks {
			old := plainTaskOf(c.before.Tasks, x.Label, x.Id)
			goesOn := old.State == impl.TkRuns && sameTask(old, x)
			if c.name != "YardTick" {
				continue
			}
			for _, n := range x.Nodes {
				d := c.after.Nodes[n]
				reserved := reservedAt(d, c.after.Now)
				count["drains"] += btoi(d.State == impl.NdDrains)
				count["reserved later"] += btoi(len(d.Books) > 0 && !reserved)
				if d.State == impl.NdDown || d.State == impl.NdDrains && !goesOn || reserved && x.State == impl.TkRuns {
					t.Errorf("%+v has been %+v, though node %d is %+v at %d", x, old, n, d, c.after.Now)
				}
			}
			for _, n := range old.Nodes {
				d := c.after.Nodes[n]
				count["fails"] += btoi(old.State == impl.TkRuns && x.State == impl.TkWaits && d.State == impl.NdDown)
				count["reserved now"] += btoi(old.State == impl.TkRuns && x.State == impl.TkWaits && reservedAt(d, c.after.Now))
			}
		}
	}
	execute(r, newYards(r, 100), 80, anyDeed, see)
	for range 1000 {
		y := tickYard(r)
		if out := impl.YardTick(y); out.Code == impl.OK {
			see(change{"YardTick", y, out.Yard})
		}
	}
	for _, kind := range []string{"drains", "reserved later", "fails", "reserved now"} {
		if count[kind] < 50 {
			t.Errorf("the epochs are too much alike: %v", count)
		}
	}
}

// TestNoTaskRunsWhereReserved is promise 27 between epochs, too: no task runs on a node that is reserved now, whatever is called, and no place is reserved there.
func TestNoTaskRunsWhereReserved(t *testing.T) {
	r := rand.New(rand.NewPCG(27, 1))
	near := 0
	execute(r, newYards(r, 100), 80, anyDeed, func(c change) {
		for _, x := range c.after.Tasks {
			for _, n := range x.Nodes {
				for _, b := range c.after.Nodes[n].Books {
					near += btoi(b.From-1 == c.after.Now)
					if x.State == impl.TkRuns && reservedAt(c.after.Nodes[n], c.after.Now) {
						t.Errorf("after %s at %d, %+v runs where %v is reserved", c.name, c.after.Now, x, b)
					}
					if x.State == impl.TkWaits && c.name == "YardTick" && b.From < x.Start+1+x.Long && x.Start < b.To {
						t.Errorf("at %d, the place of %+v is reserved from %d to %d", c.after.Now, x, b.From, b.To)
					}
				}
			}
		}
	})
	if near < 20 {
		t.Errorf("only %d tasks run just before a reservation", near)
	}
}

// TestFailingAndDraining is promise 26 on one case: of two tasks, the node of one fails, and that of the other one drains.
func TestFailingAndDraining(t *testing.T) {
	low := label(0, 0)
	y := yardWith(openTo(3, low), onSince(low, 1, 9, 8, 0), onSince(low, 2, 5, 8, 1), dueAt(low, 3, 5, 12, 1))
	y = wantYardNode(t, impl.OK, wantYardNode(t, impl.OK, y, 0, impl.NdDown).Yard, 1, impl.NdDrains).Yard
	wantStates(t, y.Tasks, impl.TkWaits, impl.TkRuns, impl.TkWaits)
	y = wantTicked(t, y, []impl.Use{use(low, "ann", 1)}, onSince(low, 1, 9, 10, 2), y.Tasks[1], dueAt(low, 3, 5, 20, 2))
	// Nothing starts where the second one has run, unless the node is up again.
	y = wantTicks(t, impl.OK, y, 5).Yard
	wantStates(t, y.Tasks, impl.TkRuns, impl.TkOver, impl.TkWaits)
	up := wantTick(t, impl.OK, wantYardNode(t, impl.OK, y, 1, impl.NdUp).Yard).Yard
	wantStates(t, up.Tasks, impl.TkRuns, impl.TkOver, impl.TkRuns)
	drained := wantTick(t, impl.OK, y).Yard
	wantStates(t, drained.Tasks, impl.TkRuns, impl.TkOver, impl.TkWaits)
	none := wantTick(t, impl.OK, wantYardNode(t, impl.OK, drained, 2, impl.NdDown).Yard).Yard
	wantStates(t, none.Tasks, impl.TkWaits, impl.TkOver, impl.TkWaits)
	wantPlaces(t, none)
}

// TestReservedNodes is promise 27 on one case: a task runs until its node is reserved, and starts again afterwards.
func TestReservedNodes(t *testing.T) {
	low := label(0, 0)
	y := yardWith(openTo(1, low), onSince(low, 1, 9, 9, 0))
	y = wantYardBook(t, impl.OK, y, 0, span(11, 13)).Yard
	for _, want := range []impl.Task{onSince(low, 1, 9, 9, 0), dueAt(low, 1, 9, 13, 0), dueAt(low, 1, 9, 13, 0), onSince(low, 1, 9, 13, 0), onSince(low, 1, 9, 13, 0)} {
		y = wantTick(t, impl.OK, y).Yard
		if !sameTask(y.Tasks[0], want) {
			t.Errorf("at %d: %+v, want %+v", y.Now, y.Tasks[0], want)
		}
	}
	if len(y.Nodes[0].Books) != 0 {
		t.Errorf("still reserved at %d: %v", y.Now, y.Nodes[0].Books)
	}
}

// TestLeastIsAssigned is promise 28: after an epoch, if all tasks that are ready have places.
func TestLeastIsAssigned(t *testing.T) {
	r := rand.New(rand.NewPCG(28, 1))
	count := map[string]int{}
	execute(r, newYards(r, 100), 80, anyDeed, func(c change) {
		if c.name != "YardTick" || slices.ContainsFunc(plainTaskOrder(c.after), func(x impl.Task) bool { return len(x.Nodes) == 0 }) {
			return
		}
		for _, a := range plainLabelsOf(c.after.Config) {
			w := fitWish(r, c.after, a)
			w.Count, w.Prio, w.After, w.Under = 1, r.Int64N(10), 0, label(0, 0)
			count[wantLeastAssigned(t, c.after, a, w)]++
		}
	})
	for _, kind := range []string{"none", "now", "later"} {
		if count[kind] < 100 {
			t.Errorf("the least starts are too much alike: %v", count)
		}
	}
}

// wantLeastAssigned submits a task, whose place has to be the one that is announced, and returns what kind of place that is.
func wantLeastAssigned(t *testing.T, y impl.Yard, a impl.Label, w impl.Wish) string {
	t.Helper()
	least := impl.Least(y, a, w.Need, w.Long)
	out := impl.YardSubmit(y, a, w)
	if out.Code != impl.OK {
		return "refused"
	}
	plan := impl.YardPlan(out.Yard)
	at := slices.IndexFunc(plan, func(s impl.Place) bool { return s.Label == a && s.Id == out.Id })
	switch {
	case at < 0 && least == -1:
		return "none"
	case at < 0 || plan[at].From != least || plan[at].To != least+1+w.Long:
		t.Errorf("%+v of %+v: the least start is %d, but the plan of %+v is %+v", w, a, least, fewOfYard(out.Yard), plan)
		return "wrong"
	case least == y.Now:
		return "now"
	}
	return "later"
}

// TestLeastIsAssignedInTheEnd is promise 28 on the document's example, up to the epoch at which the task starts.
func TestLeastIsAssignedInTheEnd(t *testing.T) {
	y, high := exampleYard(t), label(1, 0)
	wantLeast(t, 10, y, high, 2, 4)
	out := wantYardSubmit(t, impl.OK, y, high, impl.Wish{Owner: "cy", Need: 2, Long: 4, Prio: 9, Count: 1})
	y = wantTick(t, impl.OK, out.Yard).Yard
	if x := impl.TaskOf(y.Tasks, high, out.Id); x.State != impl.TkWaits || x.Start != 10 {
		t.Errorf("it has become %+v", x)
	}
	y = wantTicks(t, impl.OK, y, 7).Yard
	if x := impl.TaskOf(y.Tasks, high, out.Id); x.State != impl.TkRuns || x.Start != 10 || y.Now != 10 {
		t.Errorf("at %d, it has become %+v", y.Now, x)
	}
}
