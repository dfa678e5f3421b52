package tests

import (
	"math/rand/v2"
	"slices"
	"testing"

	"loop.example/g00658/impl"
)

// plainAhead is what the document says of the order of two valid jobs.
func plainAhead(a impl.Job, b impl.Job) bool {
	switch {
	case a.Label.Level != b.Label.Level:
		return a.Label.Level < b.Label.Level
	case a.Label.Set != b.Label.Set:
		return a.Label.Set < b.Label.Set
	case a.Prio != b.Prio:
		return a.Prio > b.Prio
	}
	return a.Id < b.Id
}

// jobAt is a waiting job with what the order depends on.
func jobAt(level int64, set int64, prio int64, id int64) impl.Job {
	j := job(label(level, set), id)
	j.Prio = prio
	return j
}

// turns lists jobs that differ in everything that the order depends on.
func turns() []impl.Job {
	var l []impl.Job
	for _, a := range allLabels() {
		for _, prio := range []int64{0, 1, 9} {
			for id := int64(1); id <= 3; id++ {
				l = append(l, jobAt(a.Level, a.Set, prio, id))
			}
		}
	}
	return l
}

func wantAhead(t *testing.T, want bool, a impl.Job, b impl.Job) {
	t.Helper()
	if got := impl.Ahead(a, b); got != want {
		t.Errorf("Ahead(%+v, %+v) = %v", a, b, got)
	}
}

func TestAhead(t *testing.T) {
	for _, c := range []struct{ a, b impl.Job }{
		{jobAt(0, 0, 0, 1), jobAt(1, 0, 0, 1)},
		{jobAt(0, 7, 0, 3), jobAt(1, 0, 9, 1)},
		{jobAt(2, 7, 0, 3), jobAt(3, 0, 9, 1)},
		{jobAt(1, 2, 0, 1), jobAt(1, 3, 0, 1)},
		{jobAt(1, 1, 0, 3), jobAt(1, 2, 9, 1)},
		{jobAt(1, 3, 0, 3), jobAt(1, 4, 9, 1)},
		{jobAt(1, 3, 5, 1), jobAt(1, 3, 0, 1)},
		{jobAt(1, 3, 5, 3), jobAt(1, 3, 0, 1)},
		{jobAt(1, 3, 9, 3), jobAt(1, 3, 8, 1)},
		{jobAt(1, 3, 5, 1), jobAt(1, 3, 5, 2)},
		{jobAt(1, 3, 0, 2), jobAt(1, 3, 0, 3)},
	} {
		wantAhead(t, true, c.a, c.b)
		wantAhead(t, false, c.b, c.a)
	}
}

func TestAheadOfAllPairs(t *testing.T) {
	all := turns()
	for _, a := range all {
		for _, b := range all {
			wantAhead(t, plainAhead(a, b), a, b)
		}
	}
}

// TestJobsAreStrictlyOrdered is promise 5, for the jobs of valid lists.
func TestJobsAreStrictlyOrdered(t *testing.T) {
	r := rand.New(rand.NewPCG(5, 1))
	for range 60 {
		l := mixedJobs(r)
		for i, a := range l {
			for k, b := range l {
				if i != k && impl.Ahead(a, b) == impl.Ahead(b, a) {
					t.Fatalf("%+v and %+v are not ordered", a, b)
				}
				if i == k && impl.Ahead(a, b) {
					t.Fatalf("%+v is ahead of itself", a)
				}
				if a.Label != b.Label && plainBelow(a.Label, b.Label) && !impl.Ahead(a, b) {
					t.Fatalf("%+v has the dominated label, but is not ahead of %+v", a, b)
				}
			}
		}
	}
}

func TestAheadHasNoCycles(t *testing.T) {
	r := rand.New(rand.NewPCG(5, 2))
	sorted := turns()
	r.Shuffle(len(sorted), func(i int, k int) { sorted[i], sorted[k] = sorted[k], sorted[i] })
	slices.SortFunc(sorted, func(a impl.Job, b impl.Job) int {
		if impl.Ahead(a, b) {
			return -1
		}
		return 1
	})
	for i, a := range sorted {
		for _, b := range sorted[i+1:] {
			wantAhead(t, true, a, b)
		}
	}
}

// TestAheadLooksAtNothingElse compares jobs that differ in what the order does not depend on.
func TestAheadLooksAtNothingElse(t *testing.T) {
	var same []impl.Job
	for _, j := range rightJobs() {
		j.Label, j.Id, j.Prio = label(1, 3), 2, 5
		same = append(same, j)
	}
	for _, a := range same {
		wantAhead(t, false, a, a)
		for _, b := range same {
			wantAhead(t, false, a, b)
			b.Id = 3
			wantAhead(t, true, a, b)
			wantAhead(t, false, b, a)
			b.Id = 1
			wantAhead(t, false, a, b)
			wantAhead(t, true, b, a)
		}
	}
}

func TestAheadOfWrongJobs(t *testing.T) {
	for _, wrong := range wrongJobs() {
		wantAhead(t, false, wrong, wrong)
		for _, right := range rightJobs() {
			wantAhead(t, false, wrong, right)
			wantAhead(t, false, right, wrong)
		}
		wantAhead(t, false, wrong, impl.Job{})
		wantAhead(t, false, impl.Job{}, wrong)
	}
}
