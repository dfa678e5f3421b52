package tests

import (
	"math/rand/v2"
	"slices"
	"testing"

	"loop.example/g00658/impl"
)

func slot(a impl.Label, id int64, start int64, nodes ...int64) impl.Slot {
	return impl.Slot{Label: a, Id: id, Start: start, Nodes: nodes}
}

func sameSlots(a []impl.Slot, b []impl.Slot) bool {
	return slices.EqualFunc(a, b, func(x impl.Slot, y impl.Slot) bool {
		return x.Label == y.Label && x.Id == y.Id && x.Start == y.Start && slices.Equal(x.Nodes, y.Nodes)
	})
}

func wantPlan(t *testing.T, p impl.Pool, want ...impl.Slot) {
	t.Helper()
	if got := impl.PlanOf(p); !sameSlots(got, want) {
		t.Errorf("PlanOf(%+v):\n got %+v\nwant %+v", p, got, want)
	}
}

func jobFor(p impl.Pool, s impl.Slot) impl.Job {
	for _, j := range p.Jobs {
		if j.Label == s.Label && j.Id == s.Id {
			return j
		}
	}
	return impl.Job{}
}

func TestPlanOf(t *testing.T) {
	low, high := label(0, 0), label(1, 0)
	clear := [][]impl.Label{{low, high}, {low}, {low, high}}
	wantPlan(t, poolOf(0, clear))
	wantPlan(t, poolOf(4, clear, wish(high, 1, 1, 4, 0)), slot(high, 1, 4, 0))
	wantPlan(t, poolOf(4, clear, wish(high, 1, 2, 4, 0)), slot(high, 1, 4, 0, 2))
	wantPlan(t, poolOf(4, clear, wish(high, 1, 2, 4, 9), wish(low, 1, 2, 3, 0)), slot(low, 1, 4, 0, 1), slot(high, 1, 7, 0, 2))
	wantPlan(t, poolOf(4, clear, wish(high, 1, 1, 4, 9), wish(low, 1, 2, 3, 0)), slot(low, 1, 4, 0, 1), slot(high, 1, 4, 2))
	// Priorities first, Ids second; a short job fills a gap before a long one, but only behind it in the order.
	wantPlan(t, poolOf(0, clear, wish(low, 1, 2, 4, 0), wish(low, 2, 2, 4, 5), wish(low, 3, 1, 2, 0)), slot(low, 2, 0, 0, 1), slot(low, 1, 4, 0, 1), slot(low, 3, 0, 2))
	wantPlan(t, poolOf(0, clear, wish(low, 1, 1, 3, 0), wish(low, 2, 3, 2, 0), wish(low, 3, 1, 4, 0)), slot(low, 1, 0, 0), slot(low, 2, 3, 0, 1, 2), slot(low, 3, 5, 0))
	// Held and done jobs have no slots.
	wantPlan(t, poolOf(2, clear, inState(job(low, 1), impl.JbHeld), inState(job(low, 2), impl.JbDone), wish(low, 3, 3, 1, 0)), slot(low, 3, 2, 0, 1, 2))
	// A valid pool may have waiting jobs for which not enough nodes are cleared.
	wantPlan(t, poolOf(2, clear, wish(high, 1, 3, 1, 0), wish(label(2, 0), 1, 1, 1, 0), wish(low, 1, 4, 1, 9), wish(low, 2, 1, 1, 0)), slot(low, 2, 2, 0))
	wantPlan(t, poolOf(2, clear, allJobs()[1:8]...))
}

// TestPlanOfRunning has running jobs that keep their nodes, and such whose span is no longer free.
func TestPlanOfRunning(t *testing.T) {
	low, high := label(0, 0), label(1, 0)
	clear := [][]impl.Label{{low, high}, {low}, {low, high}}
	keeps := onNodes(wish(high, 1, 1, 4, 0), 1, 2)
	wantPlan(t, poolOf(3, clear, keeps), slot(high, 1, 1, 2))
	wantPlan(t, poolOf(3, clear, keeps, wish(high, 2, 2, 2, 0)), slot(high, 1, 1, 2), slot(high, 2, 5, 0, 2))
	wantPlan(t, poolOf(3, clear, keeps, wish(low, 1, 2, 9, 0)), slot(low, 1, 3, 0, 1), slot(high, 1, 1, 2))
	// The example of the document.
	runs := onNodes(wish(high, 1, 1, 4, 0), 1, 0)
	wantPlan(t, poolOf(2, clear[:2], runs, wish(low, 1, 2, 3, 0)), slot(low, 1, 2, 0, 1), slot(high, 1, 5, 0))
	// One of two nodes is enough to displace, and the job begins anew with its whole length.
	wide := onNodes(wish(high, 1, 2, 6, 0), 1, 0, 2)
	wantPlan(t, poolOf(4, clear, wide, wish(low, 1, 1, 1, 0)), slot(low, 1, 4, 0), slot(high, 1, 5, 0, 2))
	wantPlan(t, poolOf(4, clear, wide, wish(high, 2, 1, 1, 0), wish(low, 1, 1, 1, 0)), slot(low, 1, 4, 0), slot(high, 1, 5, 0, 2), slot(high, 2, 4, 2))
	// A displaced job takes another node at once if there is one.
	wantPlan(t, poolOf(4, clear, runs, wish(low, 1, 1, 5, 0)), slot(low, 1, 4, 0), slot(high, 1, 4, 2))
	// What is reserved behind the end of a running job does not displace it, but one step before the end does.
	busy := onNodes(wish(low, 1, 2, 5, 0), 0, 1, 2)
	wantPlan(t, poolOf(2, clear, busy, wish(low, 2, 3, 1, 0), onNodes(wish(high, 1, 1, 5, 0), 0, 0)), slot(low, 1, 0, 1, 2), slot(low, 2, 5, 0, 1, 2), slot(high, 1, 0, 0))
	wantPlan(t, poolOf(2, clear, busy, wish(low, 2, 3, 1, 0), onNodes(wish(high, 1, 1, 5, 0), 1, 0)), slot(low, 1, 0, 1, 2), slot(low, 2, 5, 0, 1, 2), slot(high, 1, 6, 0))
	// Within a label the order is that of priorities, for running jobs too.
	wantPlan(t, poolOf(2, clear[:1], onNodes(wish(low, 1, 1, 5, 3), 1, 0), wish(low, 2, 1, 2, 4)), slot(low, 2, 2, 0), slot(low, 1, 4, 0))
	wantPlan(t, poolOf(2, clear[:1], onNodes(wish(low, 1, 1, 5, 3), 1, 0), wish(low, 2, 1, 2, 3)), slot(low, 1, 1, 0), slot(low, 2, 6, 0))
}

// TestPlanOfNoFit has a job that is planned within the horizon, one step behind it, and behind one without a slot.
func TestPlanOfNoFit(t *testing.T) {
	low, high := label(0, 0), label(1, 0)
	clear := alike(1, low, high)
	for _, now := range []int64{0, 5, impl.MaxTime - 100} {
		first, second := wish(low, 1, 1, 20, 9), wish(low, 2, 1, 20, 8)
		wantPlan(t, poolOf(now, clear, first, second, wish(high, 1, 1, 20, 0)), slot(low, 1, now, 0), slot(low, 2, now+20, 0), slot(high, 1, now+40, 0))
		wantPlan(t, poolOf(now, clear, first, second, wish(low, 3, 1, 1, 7), wish(high, 1, 1, 1, 0)), slot(low, 1, now, 0), slot(low, 2, now+20, 0), slot(low, 3, now+40, 0))
		second.Long = 19
		wantPlan(t, poolOf(now, clear, first, second, wish(low, 3, 1, 2, 7), wish(high, 1, 1, 1, 0)), slot(low, 1, now, 0), slot(low, 2, now+20, 0), slot(low, 3, now+39, 0))
		wantPlan(t, poolOf(now, clear, first, second, wish(low, 3, 1, 20, 7), wish(high, 1, 1, 20, 0)), slot(low, 1, now, 0), slot(low, 2, now+20, 0), slot(low, 3, now+39, 0))
		// The one without a slot reserves nothing: a shorter one behind it fits.
		wide := alike(2, low, high)
		wantPlan(t, poolOf(now, wide, first, second, wish(low, 3, 2, 20, 7), wish(high, 1, 2, 1, 2), wish(high, 2, 1, 20, 1), wish(high, 3, 2, 2, 0)),
			slot(low, 1, now, 0), slot(low, 2, now, 1), slot(low, 3, now+20, 0, 1), slot(high, 1, now+40, 0, 1))
	}
}

// TestPlanOfTheBusiestNode has as many jobs on one node as there can be: three of each label of its clearance. A node never has 20 reservations.
func TestPlanOfTheBusiestNode(t *testing.T) {
	chain := longChain()[:4]
	for n := 1; n <= 6; n++ {
		p := poolOf(7, alike(n, chain...))
		var want []impl.Slot
		at := int64(7)
		for _, a := range chain {
			for id := int64(1); id <= 3; id++ {
				p.Jobs = append(p.Jobs, wish(a, id, int64(n), 1+id, 9-id))
				want = append(want, slot(a, id, at, []int64{0, 1, 2, 3, 4, 5}[:n]...))
				at += 1 + id
			}
		}
		slices.Reverse(p.Jobs)
		for i := range p.Jobs {
			p.Jobs[i].Id = int64(i%3) + 1
		}
		for i := range want {
			want[i].Id = 4 - want[i].Id
		}
		wantPlan(t, p, want...)
	}
}

// TestPlanOfMixedPools compares with the document's text, and checks what promise 7 says of slots.
func TestPlanOfMixedPools(t *testing.T) {
	r := rand.New(rand.NewPCG(7, 1))
	for range 4000 {
		p := mixedPool(r)
		wantPlan(t, p, plainPlanOf(p)...)
		wantSlotsRight(t, p, impl.PlanOf(p))
		wantFirstSoon(t, p)
	}
}

func wantSlotsRight(t *testing.T, p impl.Pool, plan []impl.Slot) {
	t.Helper()
	taken := grid{}
	for i, s := range plan {
		j := jobFor(p, s)
		if int64(len(s.Nodes)) != j.Need || !slices.IsSorted(s.Nodes) {
			t.Errorf("slot %+v has not the nodes that %+v needs", s, j)
		}
		for _, n := range s.Nodes {
			if !plainCleared(p, n, s.Label) {
				t.Errorf("slot %+v has a node that is not cleared", s)
			}
			if !taken.free(n, max(s.Start, p.Now), s.Start+j.Long) {
				t.Errorf("slot %+v overlaps another one of %+v", s, plan)
			}
		}
		taken.reserve(s.Nodes, s.Start, s.Start+j.Long)
		if i > 0 && !plainAhead(jobFor(p, plan[i-1]), j) {
			t.Errorf("slot %+v is not behind %+v", s, plan[i-1])
		}
	}
}

// wantFirstSoon is the end of promise 7: nothing but nodes that are not cleared keeps the first job from starting.
func wantFirstSoon(t *testing.T, p impl.Pool) {
	t.Helper()
	for _, j := range plainTurns(p.Jobs) {
		if j.State != impl.JbWaits && j.State != impl.JbRuns {
			continue
		}
		var nodes []int64
		for n := range int64(len(p.Clear)) {
			if plainCleared(p, n, j.Label) {
				nodes = append(nodes, n)
			}
		}
		plan := impl.PlanOf(p)
		switch {
		case j.State == impl.JbRuns:
			nodes = j.Nodes
			if len(plan) == 0 || !sameSlots(plan[:1], []impl.Slot{slot(j.Label, j.Id, j.Start, nodes...)}) {
				t.Errorf("the first job, %+v, does not go on: %+v", j, plan)
			}
		case int64(len(nodes)) >= j.Need:
			if len(plan) == 0 || !sameSlots(plan[:1], []impl.Slot{slot(j.Label, j.Id, p.Now, nodes[:j.Need]...)}) {
				t.Errorf("the first job, %+v, does not start: %+v", j, plan)
			}
		case len(plan) > 0 && plan[0].Label == j.Label && plan[0].Id == j.Id:
			t.Errorf("%+v has not enough nodes, but the slot %+v", j, plan[0])
		}
		return
	}
	if plan := impl.PlanOf(p); len(plan) != 0 {
		t.Errorf("nothing to plan, but %+v", plan)
	}
}
