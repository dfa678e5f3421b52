package tests

import (
	"math"
	"math/rand/v2"
	"reflect"
	"slices"
	"testing"

	"loop.example/g00658/impl"
)

func wantPool(t *testing.T, want bool, p impl.Pool) {
	t.Helper()
	if got := impl.PoolRight(p); got != want {
		t.Errorf("PoolRight(%d nodes, %d jobs, %+v, now %d) = %v", len(p.Clear), len(p.Jobs), p.Jobs[:min(len(p.Jobs), 4)], p.Now, got)
	}
}

func sameJobs(a []impl.Job, b []impl.Job) bool {
	return slices.EqualFunc(a, b, func(x impl.Job, y impl.Job) bool {
		nodes := slices.Equal(x.Nodes, y.Nodes)
		x.Nodes, y.Nodes = nil, nil
		return nodes && reflect.DeepEqual(x, y)
	})
}

// samePool takes nil and an empty slice as equal.
func samePool(a impl.Pool, b impl.Pool) bool {
	return a.Now == b.Now && sameJobs(a.Jobs, b.Jobs) && slices.EqualFunc(a.Clear, b.Clear, slices.Equal)
}

// wantOut compares a result; what is not an error has to be valid, too.
func wantOut(t *testing.T, what string, got impl.PoolOut, want impl.PoolOut) {
	t.Helper()
	if got.Code != want.Code || got.Id != want.Id || !samePool(got.Pool, want.Pool) {
		t.Errorf("%s: got %+v, want %+v", what, got, want)
	}
	if right := impl.PoolRight(got.Pool); right != (got.Code == impl.OK) {
		t.Errorf("%s: code %d, but PoolRight of the pool is %v", what, got.Code, right)
	}
}

// wantCode expects a result that has nothing but an error.
func wantCode(t *testing.T, what string, got impl.PoolOut, code int64) {
	t.Helper()
	wantOut(t, what, got, impl.PoolOut{Code: code})
}

// wrongClears lists clearances that make a pool invalid: too few nodes, too many, or one that is no chain among right ones.
func wrongClears() [][][]impl.Label {
	low, high := label(0, 0), label(1, 0)
	wrong := [][][]impl.Label{nil, {}, alike(7, low), alike(8, low), alike(impl.MaxList, low)}
	noChains := [][]impl.Label{
		nil, {}, {high, low}, {low, low}, {low, high, high}, {low, high, low}, {label(1, 3), label(2, 6)}, {label(0, 1), label(0, 2)},
		longChain(), longChain()[:5], slices.Repeat([]impl.Label{low}, impl.MaxList+1),
	}
	for _, a := range wrongLabels() {
		noChains = append(noChains, []impl.Label{a}, []impl.Label{low, a})
	}
	for _, labels := range noChains {
		for n := 1; n <= 6; n++ {
			clear := alike(n, low, high)
			clear[n-1] = labels
			wrong = append(wrong, clear)
		}
		clear := alike(6, low)
		clear[0] = labels
		wrong = append(wrong, clear)
	}
	return wrong
}

// wrongPools lists pools that are wrong in one way each.
func wrongPools() []impl.Pool {
	low, high := label(0, 0), label(1, 0)
	clear := [][]impl.Label{{low, high}, {low}, {low, high}}
	wrong := []impl.Pool{{}, {Now: 5}, {Jobs: []impl.Job{job(low, 1)}}}
	for _, c := range wrongClears() {
		wrong = append(wrong, poolOf(3, c))
	}
	for _, now := range []int64{math.MinInt64, -1, impl.MaxTime - 99, impl.MaxTime, impl.MaxTime + 1, math.MaxInt64} {
		wrong = append(wrong, poolOf(now, clear), poolOf(now, clear, job(low, 1)))
	}
	for _, jobs := range [][]impl.Job{
		jobsOf(low, 2), jobsOf(low, 1, 1), jobsOf(low, 1, 3), jobsOf(high, 2, 1), jobsOf(low, 1, 2, 3, 4), append(allJobs(), job(low, 4)),
		slices.Repeat(allJobs(), 5), {job(low, 1), job(high, 1), job(low, 3)},
	} {
		wrong = append(wrong, poolOf(3, clear, jobs...))
	}
	for _, j := range wrongJobs() {
		wrong = append(wrong, poolOf(3, clear, j), poolOf(3, clear, job(label(2, 1), 1), j))
	}
	for _, jobs := range wrongRuns() {
		wrong = append(wrong, poolOf(9, clear, jobs...))
	}
	return wrong
}

// wrongRuns lists running jobs that are valid themselves, but not at time 9 on three nodes, the one in the middle of which is cleared for 0: only.
func wrongRuns() [][]impl.Job {
	low, high := label(0, 0), label(1, 0)
	first := wish(low, 1, 1, 4, 0)
	return [][]impl.Job{
		{onNodes(first, 10, 0)}, {onNodes(first, 11, 0)}, {onNodes(first, impl.MaxTime, 0)},
		{onNodes(first, 5, 0)}, {onNodes(first, 4, 0)}, {onNodes(first, 0, 0)},
		{onNodes(first, 9, 3)}, {onNodes(first, 9, 5)}, {onNodes(first, 9, 0, 1, 2, 3)}, {onNodes(first, 9, 2, 4)},
		{onNodes(wish(high, 1, 1, 4, 0), 9, 1)}, {onNodes(wish(high, 1, 1, 4, 0), 9, 0, 1)}, {onNodes(wish(high, 1, 1, 4, 0), 9, 0, 1, 2)},
		{onNodes(wish(label(0, 1), 1, 1, 4, 0), 9, 0)}, {onNodes(wish(label(2, 0), 1, 1, 4, 0), 9, 2)},
		{onNodes(first, 9, 0), onNodes(wish(high, 1, 1, 4, 0), 9, 0)},
		{onNodes(first, 9, 0, 1), onNodes(wish(high, 1, 1, 4, 0), 8, 0, 2)},
		{onNodes(first, 9, 1, 2), job(high, 1), onNodes(wish(low, 2, 1, 4, 0), 7, 1)},
		{onNodes(first, 9, 0), onNodes(wish(low, 2, 1, 4, 0), 8, 1), onNodes(wish(high, 1, 1, 20, 0), 1, 0, 2)},
	}
}

func TestPoolRight(t *testing.T) {
	low, high := label(0, 0), label(1, 0)
	for n := 0; n <= 7; n++ {
		wantPool(t, n >= 1 && n <= 6, poolOf(0, alike(n, low)))
		wantPool(t, n >= 1 && n <= 6, poolOf(4, alike(n, low, high), job(low, 1), job(high, 1)))
	}
	for now, want := range map[int64]bool{-1: false, 0: true, 1: true, impl.MaxTime - 101: true, impl.MaxTime - 100: true, impl.MaxTime - 99: false, impl.MaxTime: false} {
		wantPool(t, want, poolOf(now, alike(2, low)))
	}
	for _, labels := range [][]impl.Label{{high}, {low, high}, {label(2, 5)}, longChain()[:4], longChain()[3:]} {
		wantPool(t, true, poolOf(0, [][]impl.Label{labels}))
		wantPool(t, true, poolOf(0, [][]impl.Label{{low}, labels, {label(0, 4)}}))
	}
	// Jobs that do not run may be of any label.
	wantPool(t, true, poolOf(0, alike(1, low), allJobs()...))
	for _, j := range rightJobs() {
		j.Id = 1
		wantPool(t, j.State != impl.JbRuns, poolOf(9, alike(1, label(0, 5)), j))
	}
	for _, p := range wrongPools() {
		wantPool(t, false, p)
	}
}

func TestPoolRightRunning(t *testing.T) {
	low, high := label(0, 0), label(1, 0)
	clear := [][]impl.Label{{low, high}, {low}, {low, high}}
	for start := int64(0); start <= 15; start++ {
		for long := int64(1); long <= 20; long++ {
			j := onNodes(wish(high, 1, 1, long, 0), start, 0, 2)
			wantPool(t, start <= 9 && start+long > 9, poolOf(9, clear, j))
		}
	}
	for _, a := range []impl.Label{low, high, label(0, 1), label(2, 0)} {
		for _, nodes := range rising()[1:] {
			p := poolOf(5, clear, onNodes(wish(a, 1, 1, 3, 0), 4, nodes...))
			right := a == low && !slices.ContainsFunc(nodes, func(n int64) bool { return n > 2 })
			right = right || a == high && !slices.ContainsFunc(nodes, func(n int64) bool { return n == 1 || n > 2 })
			wantPool(t, right, p)
		}
	}
	wantPool(t, true, poolOf(9, clear, onNodes(wish(low, 1, 1, 4, 0), 6, 0), onNodes(wish(low, 2, 1, 4, 0), 9, 1), onNodes(wish(high, 1, 1, 20, 9), 0, 2)))
	wantPool(t, true, poolOf(impl.MaxTime-100, clear, onNodes(wish(low, 1, 1, 1, 0), impl.MaxTime-100, 0)))
	wantPool(t, true, poolOf(0, clear, onNodes(wish(low, 1, 1, 1, 0), 0, 0)))
}

// TestMixedPoolsRight changes valid pools a little and compares with the document's text.
func TestMixedPoolsRight(t *testing.T) {
	r := rand.New(rand.NewPCG(6, 1))
	for range 3000 {
		p := mixedPool(r)
		wantPool(t, true, p)
		for range 4 {
			changed := clonePool(p)
			spoil(r, &changed)
			wantPool(t, plainPoolRight(changed), changed)
		}
	}
}

// spoil changes one thing of a pool.
func spoil(r *rand.Rand, p *impl.Pool) {
	p.Now += int64(r.IntN(3)) - 1
	n := r.IntN(len(p.Clear))
	switch r.IntN(4) {
	case 0:
		p.Clear = slices.Delete(p.Clear, n, n+1)
	case 1:
		p.Clear[n] = mixedChain(r)
	case 2:
		slices.Reverse(p.Clear[n])
	}
	if len(p.Jobs) == 0 {
		return
	}
	j := &p.Jobs[r.IntN(len(p.Jobs))]
	switch r.IntN(5) {
	case 0:
		j.Label = p.Jobs[r.IntN(len(p.Jobs))].Label
	case 1:
		j.Start += int64(r.IntN(5)) - 2
	case 2:
		j.Long += int64(r.IntN(9)) - 4
	case 3:
		j.Nodes = rising()[r.IntN(64)]
	case 4:
		*j = onNodes(*j, max(0, p.Now-1), rising()[1+r.IntN(63)]...)
	}
}

func TestPoolNew(t *testing.T) {
	low, high := label(0, 0), label(1, 0)
	for n := 1; n <= 6; n++ {
		for _, labels := range [][]impl.Label{{low}, {high}, {low, high}, {label(2, 5)}, longChain()[:4], longChain()[3:]} {
			clear := alike(n, labels...)
			wantOut(t, "PoolNew", impl.PoolNew(clear), impl.PoolOut{Pool: impl.Pool{Clear: clear}})
		}
	}
	mixed := [][]impl.Label{{low, high}, {label(3, 7)}, {label(0, 2), label(0, 6)}}
	wantOut(t, "PoolNew", impl.PoolNew(mixed), impl.PoolOut{Pool: impl.Pool{Clear: mixed}})
	for _, clear := range wrongClears() {
		wantCode(t, "PoolNew of wrong clearances", impl.PoolNew(clear), impl.ErrForm)
	}
}

func TestPoolNewSizeLimit(t *testing.T) {
	low := label(0, 0)
	wantCode(t, "PoolNew", impl.PoolNew(alike(impl.MaxList, low)), impl.ErrForm)
	for _, n := range []int{impl.MaxList + 1, impl.MaxList + 2, 3 * impl.MaxList} {
		wantCode(t, "PoolNew of many nodes", impl.PoolNew(alike(n, low)), impl.ErrSize)
		wantCode(t, "PoolNew of many nodes that are not cleared", impl.PoolNew(make([][]impl.Label, n)), impl.ErrSize)
		// The limit holds for arguments, not for the slices in them, and not for a pool's slices.
		long := slices.Repeat([]impl.Label{low}, n)
		wantCode(t, "PoolNew of a long clearance", impl.PoolNew([][]impl.Label{long}), impl.ErrForm)
		for _, p := range []impl.Pool{poolOf(0, alike(n, low)), poolOf(0, [][]impl.Label{long}), poolOf(0, alike(1, low), slices.Repeat(jobsOf(low, 1), n)...)} {
			wantRefused(t, p, low)
		}
	}
}

// wantRefused calls every function with an invalid pool, and with other arguments that are right.
func wantRefused(t *testing.T, p impl.Pool, a impl.Label) {
	t.Helper()
	wantPool(t, false, p)
	wantCode(t, "Submit", impl.Submit(p, a, 1, 1, 0), impl.ErrForm)
	wantCode(t, "Change", impl.Change(p, a, 1, impl.JbDone), impl.ErrForm)
	wantCode(t, "Advance", impl.Advance(p), impl.ErrForm)
	if plan := impl.PlanOf(p); len(plan) != 0 {
		t.Errorf("PlanOf of a wrong pool: %+v", plan)
	}
	if text := impl.View(p, a); text != "" {
		t.Errorf("View of a wrong pool: %q", text)
	}
}

func TestWrongPoolsAreRefused(t *testing.T) {
	for _, p := range wrongPools() {
		wantRefused(t, p, label(0, 0))
		wantRefused(t, p, label(1, 0))
		// The pool is looked at first: the other arguments would be errors of their own.
		wantCode(t, "Submit", impl.Submit(p, label(0, 0), 6, 1, 0), impl.ErrForm)
		wantCode(t, "Submit", impl.Submit(p, label(3, 7), 1, 1, 0), impl.ErrForm)
		wantCode(t, "Change", impl.Change(p, label(3, 7), 3, impl.JbDone), impl.ErrForm)
		wantCode(t, "Change", impl.Change(p, label(0, 0), 1, impl.JbWaits), impl.ErrForm)
	}
}
