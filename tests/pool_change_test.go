package tests

import (
	"math"
	"math/rand/v2"
	"testing"

	"loop.example/g00658/impl"
)

// mixedNodes has three nodes for 0:, two for 1:, one for 0:a, and none for any other label.
func mixedNodes() [][]impl.Label {
	low, high := label(0, 0), label(1, 0)
	return [][]impl.Label{{low, high}, {low, label(0, 1)}, {low, high}, {label(2, 7)}}
}

func wantSubmit(t *testing.T, p impl.Pool, a impl.Label, need int64, long int64, prio int64) {
	t.Helper()
	wantOut(t, "Submit", impl.Submit(p, a, need, long, prio), plainSubmit(p, a, need, long, prio))
}

func wantSubmitCode(t *testing.T, code int64, p impl.Pool, a impl.Label, need int64, long int64, prio int64) {
	t.Helper()
	got := impl.Submit(p, a, need, long, prio)
	if got.Code != code {
		t.Errorf("Submit(%+v, %d, %d, %d) of %d jobs: code %d, want %d", a, need, long, prio, len(p.Jobs), got.Code, code)
	}
	wantOut(t, "Submit", got, plainSubmit(p, a, need, long, prio))
}

// full has as many jobs of a label as there may be.
func full(clear [][]impl.Label, a impl.Label) impl.Pool {
	return poolOf(0, clear, jobsOf(a, 1, 2, 3)...)
}

// TestSubmit is the part of promise 6 that a submitted job waits.
func TestSubmit(t *testing.T) {
	low, high := label(0, 0), label(1, 0)
	p := poolOf(8, mixedNodes())
	for i, next := range []impl.Job{
		wish(low, 1, 3, 20, 9), wish(high, 1, 2, 1, 0), wish(low, 2, 1, 4, 5), wish(label(0, 1), 1, 1, 7, 2),
		wish(high, 2, 1, 19, 8), wish(high, 3, 2, 2, 1), wish(low, 3, 2, 3, 4), wish(label(2, 7), 1, 1, 1, 1),
	} {
		got := impl.Submit(p, next.Label, next.Need, next.Long, next.Prio)
		want := clonePool(p)
		want.Jobs = append(want.Jobs, next)
		wantOut(t, "Submit", got, impl.PoolOut{Pool: want, Id: next.Id})
		if j := impl.JobOf(got.Pool.Jobs, next.Label, got.Id); j.State != impl.JbWaits || len(got.Pool.Jobs) != i+1 {
			t.Errorf("job %d does not wait: %+v", i, j)
		}
		p = got.Pool
	}
}

func TestSubmitLimits(t *testing.T) {
	low := label(0, 0)
	p := poolOf(0, alike(6, low))
	for n, code := range map[int64]int64{math.MinInt64: 1, -1: 1, 0: 1, 1: 0, 2: 0, 6: 0, 7: 1, 8: 1, math.MaxInt64: 1} {
		wantSubmitCode(t, code, p, low, n, 1, 0)
	}
	for n, code := range map[int64]int64{math.MinInt64: 1, -1: 1, 0: 1, 1: 0, 2: 0, 20: 0, 21: 1, 40: 1, math.MaxInt64: 1} {
		wantSubmitCode(t, code, p, low, 1, n, 0)
	}
	for n, code := range map[int64]int64{math.MinInt64: 1, -1: 1, 0: 0, 1: 0, 9: 0, 10: 1, 100: 1, math.MaxInt64: 1} {
		wantSubmitCode(t, code, p, low, 1, 1, n)
	}
	for _, a := range wrongLabels() {
		wantSubmitCode(t, impl.ErrForm, p, a, 1, 1, 0)
	}
	for _, now := range []int64{0, impl.MaxTime - 100} {
		p.Now = now
		wantSubmitCode(t, impl.OK, p, low, 6, 20, 9)
	}
}

func TestSubmitOfClearedNodes(t *testing.T) {
	low, high := label(0, 0), label(1, 0)
	p := impl.PoolNew([][]impl.Label{{low}, {high}, {low}}).Pool
	wantSubmitCode(t, impl.ErrLabel, p, high, 2, 1, 0)
	wantSubmitCode(t, impl.OK, p, high, 1, 1, 0)
	for n := 1; n <= 6; n++ {
		for need := int64(1); need <= 6; need++ {
			code := int64(impl.OK)
			if need > int64(n) {
				code = impl.ErrLabel
			}
			clear := append(alike(6-n, high), alike(n, low)...)
			wantSubmitCode(t, code, poolOf(0, clear), low, need, 1, 0)
			wantSubmitCode(t, code, poolOf(0, append(alike(n, low), alike(6-n, high)...)), low, need, 1, 0)
		}
	}
	// A node for a label that dominates is not one for the label, and neither is one for a dominated label.
	for _, a := range allLabels() {
		for need := int64(1); need <= 4; need++ {
			code := int64(impl.ErrLabel)
			if need <= map[impl.Label]int64{low: 3, high: 2, label(0, 1): 1, label(2, 7): 1}[a] {
				code = impl.OK
			}
			wantSubmitCode(t, code, poolOf(0, mixedNodes()), a, need, 1, 0)
		}
	}
	// Nodes that are taken count as the others do.
	busy := poolOf(3, mixedNodes(), onNodes(wish(low, 1, 1, 20, 9), 3, 0, 1, 2))
	wantSubmitCode(t, impl.OK, busy, low, 3, 1, 0)
	wantSubmitCode(t, impl.OK, busy, high, 2, 1, 0)
}

func TestSubmitOfMaxOfJobs(t *testing.T) {
	low, high := label(0, 0), label(1, 0)
	for n := range 4 {
		p := poolOf(0, mixedNodes(), jobsOf(low, []int64{1, 2, 3}[:n]...)...)
		p.Jobs = append(p.Jobs, jobsOf(high, 1, 2)...)
		code := int64(impl.OK)
		if n == 3 {
			code = impl.ErrFull
		}
		wantSubmitCode(t, code, p, low, 1, 1, 0)
		wantSubmitCode(t, impl.OK, p, high, 1, 1, 0)
	}
	// Jobs that are done or held are jobs, too.
	for _, state := range []int64{impl.JbWaits, impl.JbDone, impl.JbHeld} {
		p := full(mixedNodes(), low)
		for i := range p.Jobs {
			p.Jobs[i].State = state
		}
		wantSubmitCode(t, impl.ErrFull, p, low, 1, 1, 0)
		wantSubmitCode(t, impl.OK, p, high, 1, 1, 0)
	}
	// All 96 jobs, and all but one.
	wantSubmitCode(t, impl.ErrFull, poolOf(0, alike(1, label(3, 7)), allJobs()...), label(3, 7), 1, 1, 0)
	wantSubmitCode(t, impl.OK, poolOf(0, alike(1, label(3, 7)), allJobs()[:95]...), label(3, 7), 1, 1, 0)
}

func TestSubmitErrorsInOrder(t *testing.T) {
	low, high := label(0, 0), label(1, 0)
	none := label(3, 7)
	for _, wrong := range []impl.Job{wish(label(0, 8), 1, 1, 1, 0), wish(none, 1, 0, 1, 0), wish(none, 1, 7, 1, 0), wish(none, 1, 1, 0, 0), wish(none, 1, 1, 21, 0), wish(none, 1, 1, 1, -1), wish(none, 1, 1, 1, 10)} {
		wantSubmitCode(t, impl.ErrForm, full(mixedNodes(), none), wrong.Label, wrong.Need, wrong.Long, wrong.Prio)
	}
	wantSubmitCode(t, impl.ErrForm, full(mixedNodes(), low), low, 7, 1, 0)
	wantSubmitCode(t, impl.ErrForm, full(mixedNodes(), low), low, 4, 21, 0)
	wantSubmitCode(t, impl.ErrForm, full(mixedNodes(), low), low, 1, 1, 10)
	wantSubmitCode(t, impl.ErrLabel, full(mixedNodes(), low), low, 4, 1, 0)
	wantSubmitCode(t, impl.ErrLabel, full(mixedNodes(), high), high, 3, 1, 0)
	wantSubmitCode(t, impl.ErrLabel, full(mixedNodes(), none), none, 1, 1, 0)
	wantSubmitCode(t, impl.ErrFull, full(mixedNodes(), low), low, 3, 20, 9)
	wantSubmitCode(t, impl.ErrFull, full(mixedNodes(), high), high, 2, 1, 0)
}

func wantChange(t *testing.T, code int64, p impl.Pool, a impl.Label, id int64, state int64) {
	t.Helper()
	got := impl.Change(p, a, id, state)
	if got.Code != code {
		t.Errorf("Change(%+v, %d, %d): code %d, want %d", a, id, state, got.Code, code)
	}
	wantOut(t, "Change", got, plainChange(p, a, id, state))
}

// changeable has a job in each state for the label 0:, but for the one that is held, which has the label 1:.
func changeable() impl.Pool {
	low, high := label(0, 0), label(1, 0)
	return poolOf(6, mixedNodes(), wish(low, 1, 2, 3, 4), inState(wish(high, 1, 1, 2, 3), impl.JbHeld), onNodes(wish(low, 2, 1, 5, 6), 4, 0, 2), inState(wish(low, 3, 1, 1, 1), impl.JbDone))
}

func TestChange(t *testing.T) {
	low, high := label(0, 0), label(1, 0)
	p := changeable()
	for _, c := range []struct {
		a     impl.Label
		id    int64
		codes [4]int64 // for each state from waiting to held
	}{
		{low, 1, [4]int64{impl.ErrState, impl.ErrForm, impl.OK, impl.OK}},
		{low, 2, [4]int64{impl.OK, impl.ErrForm, impl.OK, impl.OK}},
		{low, 3, [4]int64{impl.ErrState, impl.ErrForm, impl.ErrState, impl.ErrState}},
		{high, 1, [4]int64{impl.OK, impl.ErrForm, impl.OK, impl.ErrState}},
		{low, 4, [4]int64{impl.ErrNone, impl.ErrForm, impl.ErrNone, impl.ErrNone}},
		{high, 2, [4]int64{impl.ErrNone, impl.ErrForm, impl.ErrNone, impl.ErrNone}},
		{label(3, 3), 1, [4]int64{impl.ErrNone, impl.ErrForm, impl.ErrNone, impl.ErrNone}},
	} {
		for i, code := range c.codes {
			wantChange(t, code, p, c.a, c.id, int64(i)+1)
		}
		for _, state := range append(wrongNums(), -1, 0, 5, 6) {
			wantChange(t, impl.ErrForm, p, c.a, c.id, state)
		}
	}
	for _, id := range append(wrongNums(), -1, 0, 4, 5) {
		wantChange(t, impl.ErrNone, p, low, id, impl.JbDone)
		wantChange(t, impl.ErrForm, p, low, id, impl.JbRuns)
	}
	wantChange(t, impl.ErrNone, poolOf(0, mixedNodes()), low, 1, impl.JbHeld)
}

// TestChangeOfWrongLabels reads chapter 1 as it stands: an invalid argument is ErrForm, which is checked before ErrNone.
func TestChangeOfWrongLabels(t *testing.T) {
	for _, a := range wrongLabels() {
		for state := int64(0); state <= 5; state++ {
			wantCode(t, "Change", impl.Change(changeable(), a, 1, state), impl.ErrForm)
		}
	}
}

// TestChangeChangesOneJob looks at the job itself, and at all others.
func TestChangeChangesOneJob(t *testing.T) {
	low := label(0, 0)
	for _, state := range []int64{impl.JbWaits, impl.JbDone, impl.JbHeld} {
		want := changeable()
		want.Jobs[2] = impl.Job{Label: low, Id: 2, Need: 2, Long: 5, Prio: 6, State: state}
		wantOut(t, "Change", impl.Change(changeable(), low, 2, state), impl.PoolOut{Pool: want})
	}
	want := changeable()
	want.Jobs[1].State = impl.JbWaits
	wantOut(t, "Change", impl.Change(changeable(), label(1, 0), 1, impl.JbWaits), impl.PoolOut{Pool: want})
}

func TestSubmitAndChangeOfMixedPools(t *testing.T) {
	r := rand.New(rand.NewPCG(6, 2))
	for range 400 {
		p := mixedPool(r)
		for _, a := range append(allLabels(), label(4, 0), label(0, 8)) {
			wantSubmit(t, p, a, int64(r.IntN(8)), 1+int64(r.IntN(20)), int64(r.IntN(10)))
			wantSubmit(t, p, a, 1, int64(r.IntN(23)), int64(r.IntN(12))-1)
		}
		for _, j := range p.Jobs {
			for state := int64(0); state <= 5; state++ {
				for id := int64(0); id <= 4; id++ {
					wantOut(t, "Change", impl.Change(p, j.Label, id, state), plainChange(p, j.Label, id, state))
				}
			}
		}
	}
}
