package tests

import (
	"math/rand/v2"
	"reflect"
	"slices"
	"testing"

	"loop.example/g00658/impl"
)

// roomy is a copy of a pool, all slices of which, the empty ones too, have room behind their elements.
func roomy(p impl.Pool) impl.Pool {
	copied := impl.Pool{Now: p.Now, Clear: make([][]impl.Label, 0, len(p.Clear)+2), Jobs: make([]impl.Job, 0, len(p.Jobs)+2)}
	for _, labels := range p.Clear {
		copied.Clear = append(copied.Clear, append(make([]impl.Label, 0, len(labels)+2), labels...))
	}
	for _, j := range p.Jobs {
		j.Nodes = append(make([]int64, 0, len(j.Nodes)+2), j.Nodes...)
		copied.Jobs = append(copied.Jobs, j)
	}
	return copied
}

// stretched is the same pool, with all slices reaching to the end of their room.
func stretched(p impl.Pool) impl.Pool {
	p.Clear, p.Jobs = slices.Clone(p.Clear[:cap(p.Clear)]), slices.Clone(p.Jobs[:cap(p.Jobs)])
	for i, labels := range p.Clear {
		p.Clear[i] = labels[:cap(labels)]
	}
	for i, j := range p.Jobs {
		p.Jobs[i].Nodes = j.Nodes[:cap(j.Nodes)]
	}
	return p
}

// mark writes a different number into each place of a pool's slices, also behind their ends, and reports whether each keeps its own.
func mark(p impl.Pool) bool {
	whole := stretched(p)
	next := int64(1000)
	for _, labels := range whole.Clear {
		for i := range labels {
			labels[i] = label(next, next)
			next++
		}
	}
	for _, j := range whole.Jobs {
		for i := range j.Nodes {
			j.Nodes[i] = next
			next++
		}
	}
	marked := clonePool(whole)
	clear(p.Jobs[:cap(p.Jobs)])
	clear(p.Clear[:cap(p.Clear)])
	return next == 1000+places(whole) && reflect.DeepEqual(marked, clonePool(whole)) && ownNumbers(whole)
}

func places(p impl.Pool) int64 {
	n := 0
	for _, labels := range p.Clear {
		n += len(labels)
	}
	for _, j := range p.Jobs {
		n += len(j.Nodes)
	}
	return int64(n)
}

// ownNumbers reports whether no number is in two places.
func ownNumbers(p impl.Pool) bool {
	seen := map[int64]bool{}
	for _, labels := range p.Clear {
		for _, a := range labels {
			seen[a.Level] = true
		}
	}
	for _, j := range p.Jobs {
		for _, n := range j.Nodes {
			seen[n] = true
		}
	}
	return int64(len(seen)) == places(p)
}

func markSlots(plan []impl.Slot) bool {
	var p impl.Pool
	for _, s := range plan[:cap(plan)] {
		p.Jobs = append(p.Jobs, impl.Job{Nodes: s.Nodes})
	}
	clear(plan[:cap(plan)])
	return mark(p)
}

// wantApart calls a function twice with the same pool and writes into the first result: neither the second one nor the pool may change.
func wantApart(t *testing.T, what string, p impl.Pool, call func(p impl.Pool) impl.Pool) {
	t.Helper()
	arg := roomy(p)
	before := clonePool(stretched(arg))
	first, second := call(arg), call(arg)
	kept := clonePool(second)
	if !reflect.DeepEqual(before, clonePool(stretched(arg))) {
		t.Errorf("%s changes its argument", what)
	}
	if !mark(first) {
		t.Errorf("%s: parts of the result share memory", what)
	}
	if !samePool(second, kept) {
		t.Errorf("%s: two results share memory", what)
	}
	if !reflect.DeepEqual(before, clonePool(stretched(arg))) {
		t.Errorf("%s: the result shares memory with the argument", what)
	}
}

func TestPoolsShareNoMemory(t *testing.T) {
	r := rand.New(rand.NewPCG(6, 5))
	for range 400 {
		p := mixedPool(r)
		labels := slices.Concat(p.Clear...)
		a := labels[r.IntN(len(labels))]
		wantApart(t, "PoolNew", p, func(p impl.Pool) impl.Pool { return impl.PoolNew(p.Clear).Pool })
		wantApart(t, "Submit", p, func(p impl.Pool) impl.Pool { return impl.Submit(p, a, 1, 5, 5).Pool })
		for id := int64(1); id <= 3; id++ {
			for state := int64(1); state <= 4; state++ {
				wantApart(t, "Change", p, func(p impl.Pool) impl.Pool { return impl.Change(p, a, id, state).Pool })
			}
		}
		wantApart(t, "Advance", p, func(p impl.Pool) impl.Pool { return impl.Advance(p).Pool })
		wantApart(t, "PoolRight and View", p, func(p impl.Pool) impl.Pool {
			if !impl.PoolRight(p) || impl.View(p, a) != plainView(p, a) {
				t.Error("another result for a pool with room behind its slices")
			}
			return impl.Pool{}
		})
		wantPlanApart(t, p)
	}
}

func wantPlanApart(t *testing.T, p impl.Pool) {
	t.Helper()
	arg := roomy(p)
	before := clonePool(stretched(arg))
	first, second := impl.PlanOf(arg), impl.PlanOf(arg)
	if !markSlots(first) {
		t.Error("PlanOf: slots share memory")
	}
	if !sameSlots(second, plainPlanOf(p)) {
		t.Error("PlanOf: two results share memory")
	}
	if !reflect.DeepEqual(before, clonePool(stretched(arg))) {
		t.Error("PlanOf changes its argument, or its result shares memory with it")
	}
}

// TestWrongPoolsAreKept looks at arguments that are refused.
func TestWrongPoolsAreKept(t *testing.T) {
	low := label(0, 0)
	for _, p := range wrongPools() {
		arg := roomy(p)
		before := clonePool(stretched(arg))
		impl.PoolRight(arg)
		impl.PoolNew(arg.Clear)
		impl.Submit(arg, low, 1, 1, 0)
		impl.Change(arg, low, 1, impl.JbDone)
		impl.PlanOf(arg)
		impl.Advance(arg)
		impl.View(arg, low)
		if !reflect.DeepEqual(before, clonePool(stretched(arg))) {
			t.Errorf("changed: %+v", before)
		}
	}
}
