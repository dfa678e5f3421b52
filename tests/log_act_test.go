package tests

import (
	"math/rand/v2"
	"testing"

	"loop.example/g00658/impl"
)

// wantAct expects a code, and with it the result that the document's text gives.
func wantAct(t *testing.T, code int64, p impl.Pool, e impl.Entry) impl.PoolOut {
	t.Helper()
	got := impl.Act(p, e)
	if got.Code != code {
		t.Errorf("Act(%d jobs at %d, %+v): code %d, want %d", len(p.Jobs), p.Now, e, got.Code, code)
	}
	wantOut(t, "Act", got, plainAct(p, e))
	return got
}

// TestAct compares with the functions that Act stands for.
func TestAct(t *testing.T) {
	low, high := label(0, 0), label(1, 0)
	p := impl.PoolNew(mixedNodes()).Pool
	wantOut(t, "a submission", wantAct(t, impl.OK, p, submitOf(high, 2, 20, 9)), impl.Submit(p, high, 2, 20, 9))
	first := wantAct(t, impl.OK, p, submitOf(low, 3, 4, 5))
	if first.Id != 1 || !sameJobs(first.Pool.Jobs, []impl.Job{wish(low, 1, 3, 4, 5)}) {
		t.Errorf("a submission: %+v", first)
	}
	second := wantAct(t, impl.OK, first.Pool, submitOf(low, 1, 2, 0))
	if second.Id != 2 || len(second.Pool.Jobs) != 2 {
		t.Errorf("a second submission: %+v", second)
	}
	wantOut(t, "a change", wantAct(t, impl.OK, second.Pool, changeOf(low, 2, impl.JbHeld)), impl.Change(second.Pool, low, 2, impl.JbHeld))
	third := wantAct(t, impl.OK, second.Pool, advance())
	wantOut(t, "an advance", third, impl.Advance(second.Pool))
	if third.Id != 0 || third.Pool.Now != 1 || third.Pool.Jobs[0].State != impl.JbRuns {
		t.Errorf("an advance: %+v", third)
	}
}

func TestActOfRefusedSubmissions(t *testing.T) {
	low := label(0, 0)
	p := poolOf(3, mixedNodes(), jobsOf(low, 1, 2)...)
	for _, n := range []int64{0, 7, 64, 100} {
		wantAct(t, impl.ErrForm, p, submitOf(low, n, 1, 0))
	}
	for _, n := range []int64{0, 21, 64, 100} {
		wantAct(t, impl.ErrForm, p, submitOf(low, 1, n, 0))
	}
	for _, n := range []int64{10, 64, 100} {
		wantAct(t, impl.ErrForm, p, submitOf(low, 1, 1, n))
	}
	wantAct(t, impl.ErrLabel, p, submitOf(low, 4, 1, 0))
	wantAct(t, impl.ErrLabel, p, submitOf(label(3, 7), 1, 1, 0))
	wantAct(t, impl.OK, p, submitOf(low, 3, 20, 9))
	wantAct(t, impl.ErrFull, full(mixedNodes(), low), submitOf(low, 3, 20, 9))
	wantAct(t, impl.ErrLabel, full(mixedNodes(), low), submitOf(low, 4, 20, 9))
	wantAct(t, impl.ErrForm, full(mixedNodes(), low), submitOf(low, 4, 20, 10))
}

func TestActOfRefusedChanges(t *testing.T) {
	low, high := label(0, 0), label(1, 0)
	p := changeable()
	for _, state := range []int64{0, impl.JbRuns, 5, 64, 100} {
		wantAct(t, impl.ErrForm, p, changeOf(low, 1, state))
		wantAct(t, impl.ErrForm, p, changeOf(low, 100, state))
	}
	for _, id := range []int64{0, 4, 64, 100} {
		wantAct(t, impl.ErrNone, p, changeOf(low, id, impl.JbDone))
	}
	wantAct(t, impl.ErrNone, p, changeOf(label(3, 7), 1, impl.JbDone))
	wantAct(t, impl.ErrState, p, changeOf(low, 1, impl.JbWaits))
	wantAct(t, impl.ErrState, p, changeOf(high, 1, impl.JbHeld))
	wantAct(t, impl.ErrState, p, changeOf(low, 3, impl.JbHeld))
	for _, state := range []int64{impl.JbWaits, impl.JbDone, impl.JbHeld} {
		wantAct(t, impl.OK, p, changeOf(low, 2, state))
	}
}

func TestActOfRefusedAdvances(t *testing.T) {
	for _, now := range []int64{0, 5, impl.MaxTime - 101} {
		got := wantAct(t, impl.OK, poolOf(now, mixedNodes()), advance())
		if got.Pool.Now != now+1 {
			t.Errorf("an advance from %d leads to %d", now, got.Pool.Now)
		}
	}
	wantAct(t, impl.ErrFull, poolOf(impl.MaxTime-100, mixedNodes()), advance())
	wantAct(t, impl.ErrFull, poolOf(impl.MaxTime-100, mixedNodes(), allJobs()...), advance())
}

// TestActOfWrongEntries looks at pools that would accept, and at such that would refuse with another code.
func TestActOfWrongEntries(t *testing.T) {
	low := label(0, 0)
	pools := []impl.Pool{{}, poolOf(0, mixedNodes()), changeable(), full(mixedNodes(), low), poolOf(impl.MaxTime-100, mixedNodes(), allJobs()...)}
	for _, e := range wrongEntries() {
		for _, p := range pools {
			wantAct(t, impl.ErrForm, p, e)
		}
	}
	wantAct(t, impl.ErrForm, pools[1], impl.Entry{Kind: impl.EnSubmit, Label: label(3, 7), A: 1, B: 1, C: 101})
	wantAct(t, impl.ErrForm, pools[1], impl.Entry{Kind: impl.EnChange, Label: low, A: 1, B: impl.JbDone, C: 1})
	wantAct(t, impl.ErrForm, pools[1], impl.Entry{Kind: impl.EnChange, Label: low, A: 101, B: impl.JbDone})
	wantAct(t, impl.ErrForm, pools[4], impl.Entry{Kind: impl.EnAdvance, C: 1})
}

func TestActOnWrongPools(t *testing.T) {
	low, high := label(0, 0), label(1, 0)
	for _, p := range wrongPools() {
		for _, e := range []impl.Entry{submitOf(low, 1, 1, 0), submitOf(high, 6, 1, 0), changeOf(low, 1, impl.JbDone), changeOf(label(3, 7), 3, impl.JbHeld), advance(), {}} {
			wantCode(t, "Act on a wrong pool", impl.Act(p, e), impl.ErrForm)
		}
	}
}

func TestActOnMixedPools(t *testing.T) {
	r := rand.New(rand.NewPCG(10, 1))
	codes := map[int64]int{}
	for range 400 {
		p := mixedPool(r)
		for range 20 {
			e := mixedEntry(r, p.Clear)
			want := plainAct(p, e)
			codes[want.Code]++
			wantAct(t, want.Code, p, e)
		}
		spoil(r, &p)
		if len(p.Clear) > 0 {
			e := mixedEntry(r, p.Clear)
			wantAct(t, plainAct(p, e).Code, p, e)
		}
	}
	for _, code := range []int64{impl.OK, impl.ErrForm, impl.ErrNone, impl.ErrLabel, impl.ErrFull, impl.ErrState} {
		if codes[code] < 50 {
			t.Errorf("code %d came only %d times", code, codes[code])
		}
	}
}
