package tests

import (
	"math/rand/v2"
	"testing"

	"loop.example/g00658/impl"
)

func wantView(t *testing.T, want string, p impl.Pool, a impl.Label) {
	t.Helper()
	if got := impl.View(p, a); got != want {
		t.Errorf("View(%d jobs, %+v) = %q, want %q", len(p.Jobs), a, got, want)
	}
}

// readView takes a view apart: the time, and the jobs in their order.
func readView(t *testing.T, text string) (int64, []impl.Job) {
	t.Helper()
	at := int64(0)
	next := func() int64 {
		out := impl.GetNum(text, at)
		if out.Code != impl.OK {
			t.Fatalf("View %q is broken at %d", text, at)
		}
		at = out.At
		return out.N
	}
	now := next()
	var jobs []impl.Job
	for at < int64(len(text)) {
		j := impl.Job{Label: label(next(), next()), Id: next(), Need: next(), Long: next(), Prio: next(), State: next(), Start: next()}
		for range next() {
			j.Nodes = append(j.Nodes, next())
		}
		jobs = append(jobs, j)
	}
	return now, jobs
}

func TestView(t *testing.T) {
	low, high := label(0, 0), label(1, 0)
	p := poolOf(64, mixedNodes(), wish(high, 1, 2, 3, 0), wish(low, 1, 1, 20, 4), onNodes(wish(low, 2, 1, 9, 5), 60, 0, 2), inState(wish(label(0, 1), 1, 1, 1, 0), impl.JbDone), inState(wish(high, 2, 1, 5, 9), impl.JbHeld))
	time, running, waiting := "\x80\x01", "\x00\x00\x04\x04\x12\x0a\x04\x78\x04\x00\x04", "\x00\x00\x02\x02\x28\x08\x02\x00\x00"
	done, held, last := "\x00\x02\x02\x02\x02\x00\x06\x00\x00", "\x02\x00\x04\x02\x0a\x12\x08\x00\x00", "\x02\x00\x02\x04\x06\x00\x02\x00\x00"
	wantView(t, time+running+waiting, p, low)
	wantView(t, time+running+waiting, p, label(0, 2))
	wantView(t, time+running+waiting+done, p, label(0, 1))
	wantView(t, time+running+waiting+held+last, p, high)
	wantView(t, time+running+waiting+held+last, p, label(2, 6))
	wantView(t, time+running+waiting+done+held+last, p, label(1, 1))
	wantView(t, time+running+waiting+done+held+last, p, label(3, 7))
	wantView(t, "\x00", poolOf(0, mixedNodes()), low)
	wantView(t, impl.PutNum(impl.MaxTime-100), poolOf(impl.MaxTime-100, alike(1, low)), label(3, 7))
	wantView(t, time, poolOf(64, mixedNodes(), p.Jobs[0], p.Jobs[4]), low)
	for _, a := range wrongLabels() {
		wantView(t, "", p, a)
		wantView(t, "", poolOf(0, mixedNodes()), a)
		wantView(t, "", impl.Pool{}, a)
	}
	for _, wrong := range wrongPools() {
		wantView(t, "", wrong, label(3, 7))
	}
}

// TestViewOfMixedPools is the end of promise 6: a view has exactly the jobs with dominated labels, each one whole, in their order.
func TestViewOfMixedPools(t *testing.T) {
	r := rand.New(rand.NewPCG(6, 3))
	for range 300 {
		p := mixedPool(r)
		for _, a := range allLabels() {
			text := impl.View(p, a)
			wantView(t, plainView(p, a), p, a)
			var want []impl.Job
			for _, j := range plainTurns(p.Jobs) {
				if plainBelow(j.Label, a) {
					want = append(want, j)
				}
			}
			if now, got := readView(t, text); now != p.Now || !sameJobs(got, want) {
				t.Errorf("View of %+v has %d and %+v, want %d and %+v", a, now, got, p.Now, want)
			}
		}
	}
	all := poolOf(3, alike(1, label(0, 0)), allJobs()...)
	for _, a := range allLabels() {
		wantView(t, plainView(all, a), all, a)
	}
}
