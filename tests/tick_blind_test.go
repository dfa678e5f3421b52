package tests

import (
	"math/rand/v2"
	"slices"
	"testing"

	"loop.example/g00658/impl"
)

// sight is what some labels have to do with in a yard: the order, the places and the least starts of their tasks, and what the next epochs make of their tasks and uses.
type sight struct {
	order []impl.Task
	plan  []impl.Place
	least []int64
	codes []int64
	later []impl.Yard
}

// sightOf looks at a yard as if there were only labels of one kind.
func sightOf(y impl.Yard, of func(a impl.Label) bool) sight {
	s := sight{order: only(impl.TaskOrder(y), of)}
	s.plan = slices.DeleteFunc(impl.YardPlan(y), func(p impl.Place) bool { return !of(p.Label) })
	for _, a := range plainLabelsOf(y.Config) {
		for _, n := range [][2]int64{{1, 1}, {1, 20}, {2, 5}, {3, 2}} {
			if of(a) {
				s.least = append(s.least, impl.Least(y, a, n[0], n[1]))
			}
		}
	}
	for _, out := range []impl.YardOut{impl.YardTick(y), impl.YardTicks(y, 2), impl.YardTicks(y, 9)} {
		out.Yard.Tasks = only(out.Yard.Tasks, of)
		out.Yard.Uses = slices.DeleteFunc(out.Yard.Uses, func(u impl.Use) bool { return !of(u.Label) })
		s.codes = append(s.codes, out.Code)
		s.later = append(s.later, out.Yard)
	}
	return s
}

// only returns the tasks of one kind of labels.
func only(l []impl.Task, of func(a impl.Label) bool) []impl.Task {
	return slices.DeleteFunc(slices.Clone(l), func(x impl.Task) bool { return !of(x.Label) })
}

func wantSight(t *testing.T, what string, got sight, want sight) {
	t.Helper()
	if !sameTasks(got.order, want.order) {
		t.Errorf("%s: the order is %+v, not %+v", what, fewTasks(got.order), fewTasks(want.order))
	}
	if !samePlaces(got.plan, want.plan) {
		t.Errorf("%s: the plan is %+v, not %+v", what, got.plan, want.plan)
	}
	if !slices.Equal(got.least, want.least) {
		t.Errorf("%s: the least starts are %v, not %v", what, got.least, want.least)
	}
	if !slices.Equal(got.codes, want.codes) || !slices.EqualFunc(got.later, want.later, sameYard) {
		t.Errorf("%s: the next epochs lead to other yards, or other codes: %v, not %v", what, got.codes, want.codes)
	}
}

// TestOthersChangeNothing is promise 20: for any label, all tasks of labels that it does not dominate may as well not be there, nor what their owners have used.
func TestOthersChangeNothing(t *testing.T) {
	r := rand.New(rand.NewPCG(20, 1))
	removed := 0
	for range 150 {
		y := tickYard(r)
		for _, a := range append(plainLabelsOf(y.Config), allLabels()[r.IntN(32)]) {
			below := func(b impl.Label) bool { return plainBelow(b, a) }
			alone := withYard(y, func(y *impl.Yard) { y.Tasks = only(y.Tasks, below) })
			removed += len(y.Tasks) - len(alone.Tasks)
			want := sightOf(alone, below)
			wantSight(t, "beside other tasks", sightOf(y, below), want)
			alone.Uses = slices.DeleteFunc(alone.Uses, func(u impl.Use) bool { return !below(u.Label) })
			wantSight(t, "beside other uses", sightOf(alone, below), want)
		}
	}
	if removed < 2000 {
		t.Errorf("only %d tasks have been removed", removed)
	}
}

// TestOneLabelChangesNothing removes the tasks of one label, which is not below another one: for that one, nothing changes.
func TestOneLabelChangesNothing(t *testing.T) {
	r := rand.New(rand.NewPCG(20, 2))
	count := map[string]int{}
	for range 90 {
		y := tickYard(r)
		for _, a := range plainLabelsOf(y.Config) {
			without := withoutLabel(y, a)
			for _, b := range plainLabelsOf(y.Config) {
				if plainBelow(a, b) || len(without.Tasks) == len(y.Tasks) {
					continue
				}
				kind := "neither dominates the other"
				if plainBelow(b, a) {
					kind = "the higher one is removed"
				}
				count[kind]++
				is := func(c impl.Label) bool { return c == b }
				wantSight(t, kind, sightOf(y, is), sightOf(without, is))
			}
		}
	}
	for _, kind := range []string{"neither dominates the other", "the higher one is removed"} {
		if count[kind] < 100 {
			t.Errorf("the labels are too much alike: %v", count)
		}
	}
}

// withoutLabel removes the tasks of a label; those that depend on them then depend on none.
func withoutLabel(y impl.Yard, a impl.Label) impl.Yard {
	return withYard(y, func(y *impl.Yard) {
		y.Tasks = only(y.Tasks, func(b impl.Label) bool { return b != a })
		for i, x := range y.Tasks {
			if x.After != 0 && x.Under == a {
				y.Tasks[i] = after(x, label(0, 0), 0)
			}
		}
	})
}

// notice is what the users below a label are told and see while calls are made.
type notice struct {
	ids    []int64
	codes  []int64
	views  []string
	sights []sight
}

// noticed executes deeds and returns what the users below a label observe, at each deed that is not one of the others.
func noticed(y impl.Yard, deeds []deed, a impl.Label) notice {
	var n notice
	below := func(b impl.Label) bool { return plainBelow(b, a) }
	for _, d := range deeds {
		out := d.call(y)
		if out.Code == impl.OK {
			y = out.Yard
		}
		if d.isUser && !below(d.label) {
			continue
		}
		n.ids = append(n.ids, out.Id)
		n.codes = append(n.codes, out.Code)
		n.views = append(n.views, impl.YardView(y, a))
		// Looking at everything takes its time; the views tell of the other times, too.
		if d.isUser || len(n.codes)%8 == 0 {
			n.sights = append(n.sights, sightOf(y, below))
		} else {
			n.sights = append(n.sights, sight{})
		}
	}
	return n
}

// mixedDeeds makes deeds that suit each other, and some that are refused.
func mixedDeeds(r *rand.Rand, y impl.Yard, n int) []deed {
	var deeds []deed
	for range n {
		d := anyDeed(r, y)
		deeds = append(deeds, d)
		if out := d.call(y); out.Code == impl.OK {
			y = out.Yard
		}
	}
	return deeds
}

// TestOthersAreNotNoticed is promise 20 over whole executions: the tasks proceed as if nobody else had called.
func TestOthersAreNotNoticed(t *testing.T) {
	r := rand.New(rand.NewPCG(20, 3))
	removed := 0
	for _, y := range newYards(r, 15) {
		deeds := mixedDeeds(r, y, 60)
		for _, a := range append(plainLabelsOf(y.Config), label(3, 7)) {
			own := slices.DeleteFunc(slices.Clone(deeds), func(d deed) bool { return d.isUser && !plainBelow(d.label, a) })
			removed += len(deeds) - len(own)
			wantNotice(t, a, noticed(y, deeds, a), noticed(y, own, a))
		}
	}
	if removed < 500 {
		t.Errorf("only %d calls have been removed", removed)
	}
}

func wantNotice(t *testing.T, a impl.Label, got notice, want notice) {
	t.Helper()
	if !slices.Equal(got.ids, want.ids) || !slices.Equal(got.codes, want.codes) {
		t.Errorf("users below %+v receive other results", a)
	}
	if !slices.Equal(got.views, want.views) {
		t.Errorf("users below %+v see other views", a)
	}
	for i, s := range got.sights {
		wantSight(t, "beside the calls of others", s, want.sights[i])
	}
}

// TestLowerTasksComeFirst is promise 20 on one case: the lower task runs the same with a higher one before it, beside it, and without it.
func TestLowerTasksComeFirst(t *testing.T) {
	low, high := label(0, 0), label(1, 0)
	c := openTo(2, low, high)
	submit := func(a impl.Label, w impl.Wish) deed {
		return deed{yardCall{name: "YardSubmit", call: func(y impl.Yard) impl.YardOut { return impl.YardSubmit(y, a, w) }}, a, true}
	}
	lower := []deed{tickDeed(), tickDeed(), submit(low, impl.Wish{Owner: "ann", Need: 2, Long: 2, Count: 1}), tickDeed(), submit(low, impl.Wish{Owner: "ann", Need: 1, Long: 9, Prio: 3, Count: 2}), tickDeed(), tickDeed(), tickDeed(), tickDeed()}
	y := impl.YardNew(c).Yard
	want := noticed(y, lower, low)
	for at := range len(lower) + 1 {
		for _, prio := range []int64{0, 9} {
			higher := submit(high, impl.Wish{Owner: "ann", Need: 2, Long: 20, Prio: prio, Count: 4})
			wantNotice(t, low, noticed(y, slices.Insert(slices.Clone(lower), at, higher), low), want)
		}
	}
}
