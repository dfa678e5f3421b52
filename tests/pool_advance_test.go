package tests

import (
	"math/rand/v2"
	"slices"
	"testing"

	"loop.example/g00658/impl"
)

// wantAdvance expects a pool with these jobs, one step later.
func wantAdvance(t *testing.T, p impl.Pool, jobs ...impl.Job) impl.Pool {
	t.Helper()
	got := impl.Advance(p)
	wantOut(t, "Advance", got, impl.PoolOut{Pool: poolOf(p.Now+1, p.Clear, jobs...)})
	return got.Pool
}

func submitted(t *testing.T, p impl.Pool, a impl.Label, need int64, long int64, prio int64) impl.Pool {
	t.Helper()
	out := impl.Submit(p, a, need, long, prio)
	if out.Code != impl.OK {
		t.Fatalf("Submit(%+v, %d, %d, %d): code %d", a, need, long, prio, out.Code)
	}
	return out.Pool
}

func changedTo(t *testing.T, p impl.Pool, a impl.Label, id int64, state int64) impl.Pool {
	t.Helper()
	out := impl.Change(p, a, id, state)
	if out.Code != impl.OK {
		t.Fatalf("Change(%+v, %d, %d): code %d", a, id, state, out.Code)
	}
	return out.Pool
}

func TestAdvance(t *testing.T) {
	low := label(0, 0)
	clear := alike(2, low)
	p := poolOf(0, clear, wish(low, 1, 1, 2, 0), wish(low, 2, 2, 1, 0), inState(job(low, 3), impl.JbHeld))
	// What is planned from Now on starts at the next step only, and lasts Long steps from there.
	p = wantAdvance(t, p, onNodes(wish(low, 1, 1, 2, 0), 1, 0), wish(low, 2, 2, 1, 0), inState(job(low, 3), impl.JbHeld))
	p = wantAdvance(t, p, onNodes(wish(low, 1, 1, 2, 0), 1, 0), wish(low, 2, 2, 1, 0), inState(job(low, 3), impl.JbHeld))
	p = wantAdvance(t, p, inState(wish(low, 1, 1, 2, 0), impl.JbDone), onNodes(wish(low, 2, 2, 1, 0), 3, 0, 1), inState(job(low, 3), impl.JbHeld))
	p = wantAdvance(t, p, inState(wish(low, 1, 1, 2, 0), impl.JbDone), inState(wish(low, 2, 2, 1, 0), impl.JbDone), inState(job(low, 3), impl.JbHeld))
	wantAdvance(t, p, p.Jobs...)
	wantAdvance(t, poolOf(5, clear))
}

// TestAdvanceEndsJobs has running jobs that end before, at and after the new Now.
func TestAdvanceEndsJobs(t *testing.T) {
	low := label(0, 0)
	for long := int64(1); long <= 20; long++ {
		for ran := int64(0); ran < long; ran++ {
			j := onNodes(wish(low, 1, 1, long, 4), 30, 1, 2)
			want := j
			if ran+1 == long {
				want = inState(j, impl.JbDone)
			}
			wantAdvance(t, poolOf(30+ran, alike(3, low), j), want)
		}
	}
	// The nodes of a job that ends are free in the same step, for a job that is later in the list or earlier.
	ends, next := onNodes(wish(low, 1, 1, 2, 4), 30, 0, 1), wish(low, 2, 2, 3, 0)
	wantAdvance(t, poolOf(31, alike(2, low), ends, next), inState(ends, impl.JbDone), onNodes(next, 32, 0, 1))
	ends.Id, next.Id = 2, 1
	wantAdvance(t, poolOf(31, alike(2, low), next, ends), onNodes(next, 32, 0, 1), inState(ends, impl.JbDone))
}

func TestAdvanceAtTheLastTime(t *testing.T) {
	low := label(0, 0)
	j := onNodes(wish(low, 1, 1, 20, 0), impl.MaxTime-105, 0)
	p := poolOf(impl.MaxTime-102, alike(1, low), j, wish(low, 2, 1, 20, 0))
	p = wantAdvance(t, p, p.Jobs...)
	p = wantAdvance(t, p, p.Jobs...)
	wantCode(t, "Advance", impl.Advance(p), impl.ErrFull)
	wantCode(t, "Advance", impl.Advance(poolOf(impl.MaxTime-100, alike(1, low))), impl.ErrFull)
	p.Jobs[0].Start = impl.MaxTime - 120
	wantCode(t, "Advance of a wrong pool at the last time", impl.Advance(p), impl.ErrForm)
	wantCode(t, "Advance of a wrong pool behind it", impl.Advance(poolOf(impl.MaxTime-99, alike(1, low))), impl.ErrForm)
}

// TestHigherYieldsAndContinues is promise 12, on the example of the document.
func TestHigherYieldsAndContinues(t *testing.T) {
	low, high := label(0, 0), label(1, 0)
	h, l := wish(high, 1, 1, 4, 0), wish(low, 1, 2, 3, 0)
	p := submitted(t, impl.PoolNew([][]impl.Label{{low, high}, {low}}).Pool, high, 1, 4, 0)
	p = wantAdvance(t, p, onNodes(h, 1, 0))
	p = wantAdvance(t, p, onNodes(h, 1, 0))
	p = submitted(t, p, low, 2, 3, 0)
	for now := int64(3); now <= 5; now++ {
		p = wantAdvance(t, p, h, onNodes(l, 3, 0, 1))
	}
	// It continues with its whole length.
	for now := int64(6); now <= 9; now++ {
		p = wantAdvance(t, p, onNodes(h, 6, 0), inState(l, impl.JbDone))
	}
	wantAdvance(t, p, inState(h, impl.JbDone), inState(l, impl.JbDone))
}

// TestHigherRunsBeside has a job with a higher label on the nodes that lower ones leave, and one that moves to them.
func TestHigherRunsBeside(t *testing.T) {
	low, high := label(0, 0), label(1, 0)
	h, l := wish(high, 1, 1, 6, 0), wish(low, 1, 2, 4, 0)
	p := submitted(t, impl.PoolNew([][]impl.Label{{low, high}, {low}, {low, high}}).Pool, low, 2, 4, 0)
	p = submitted(t, p, high, 1, 6, 0)
	p = wantAdvance(t, p, onNodes(l, 1, 0, 1), onNodes(h, 1, 2))
	p = wantAdvance(t, p, onNodes(l, 1, 0, 1), onNodes(h, 1, 2))
	// The second lower job takes the last node; the higher one waits until the first lower one is done.
	p = submitted(t, p, low, 1, 5, 0)
	second := wish(low, 2, 1, 5, 0)
	p = wantAdvance(t, p, onNodes(l, 1, 0, 1), h, onNodes(second, 3, 2))
	p = wantAdvance(t, p, onNodes(l, 1, 0, 1), h, onNodes(second, 3, 2))
	p = wantAdvance(t, p, inState(l, impl.JbDone), onNodes(h, 5, 0), onNodes(second, 3, 2))
	// It moves, beginning anew, when a lower job needs just its node.
	p = changedTo(t, p, low, 2, impl.JbDone)
	p = submitted(t, p, low, 2, 9, 0)
	p = wantAdvance(t, p, inState(l, impl.JbDone), onNodes(h, 6, 2), inState(second, impl.JbDone), onNodes(wish(low, 3, 2, 9, 0), 6, 0, 1))
	wantAdvance(t, p, p.Jobs...)
}

// TestHeldJobWaits is the end of promise 12: a held job has no nodes until it is to wait again.
func TestHeldJobWaits(t *testing.T) {
	low, high := label(0, 0), label(1, 0)
	for _, a := range []impl.Label{low, high} {
		j := wish(a, 1, 1, 3, 9)
		other := wish(high, 2, 1, 8, 0)
		if a == low {
			other.Id = 1
		}
		p := submitted(t, impl.PoolNew(alike(1, low, high)).Pool, a, 1, 3, 9)
		p = submitted(t, p, high, 1, 8, 0)
		p = wantAdvance(t, p, onNodes(j, 1, 0), other)
		p = changedTo(t, p, a, 1, impl.JbHeld)
		for now := int64(2); now <= 6; now++ {
			p = wantAdvance(t, p, inState(j, impl.JbHeld), onNodes(other, 2, 0))
		}
		p = changedTo(t, p, a, 1, impl.JbWaits)
		p = wantAdvance(t, p, onNodes(j, 7, 0), other)
		// A running job that is told to wait starts anew.
		p = changedTo(t, p, a, 1, impl.JbWaits)
		p = wantAdvance(t, p, onNodes(j, 8, 0), other)
		p = changedTo(t, p, a, 1, impl.JbDone)
		wantAdvance(t, p, inState(j, impl.JbDone), onNodes(other, 9, 0))
	}
}

// TestMixedPoolsAdvance compares with the document's text, from pools in all kinds of states on.
func TestMixedPoolsAdvance(t *testing.T) {
	r := rand.New(rand.NewPCG(12, 1))
	for range 2500 {
		p := mixedPool(r)
		for range 6 {
			got := impl.Advance(p)
			wantOut(t, "Advance", got, plainAdvance(p))
			if got.Code != impl.OK {
				break
			}
			wantFollowed(t, impl.PlanOf(got.Pool), got.Pool)
			p = got.Pool
		}
	}
}

// wantFollowed expects that exactly those jobs run whose slots have begun.
func wantFollowed(t *testing.T, plan []impl.Slot, p impl.Pool) {
	t.Helper()
	for _, j := range p.Jobs {
		begun := slices.ContainsFunc(plan, func(s impl.Slot) bool { return s.Label == j.Label && s.Id == j.Id && s.Start <= p.Now })
		if begun != (j.State == impl.JbRuns) {
			t.Errorf("job %+v beside the plan %+v at %d", j, plan, p.Now)
		}
	}
}

// TestEveryJobIsDoneAtLast lets time pass: whoever yielded has continued, but held jobs and those without enough nodes still wait.
func TestEveryJobIsDoneAtLast(t *testing.T) {
	r := rand.New(rand.NewPCG(12, 2))
	for range 60 {
		p := mixedPool(r)
		p.Now = 1000
		for i, j := range p.Jobs {
			if j.State == impl.JbRuns {
				p.Jobs[i].Start = 1000
			}
		}
		before := clonePool(p)
		for range 250 {
			p = impl.Advance(p).Pool
		}
		for i, j := range before.Jobs {
			want := inState(j, impl.JbDone)
			cleared := int64(0)
			for n := range int64(len(p.Clear)) {
				if plainCleared(p, n, j.Label) {
					cleared++
				}
			}
			if j.State == impl.JbHeld || j.State == impl.JbWaits && cleared < j.Need {
				want = j
			}
			if !sameJobs(p.Jobs[i:i+1], []impl.Job{want}) {
				t.Errorf("job %+v has become %+v", j, p.Jobs[i])
			}
		}
	}
}
