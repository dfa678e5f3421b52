package tests

import (
	"math"
	"math/rand/v2"
	"reflect"
	"slices"
	"testing"

	"loop.example/g00658/impl"
)

// jobsOf makes one waiting job of a label for each Id.
func jobsOf(a impl.Label, ids ...int64) []impl.Job {
	var l []impl.Job
	for _, id := range ids {
		l = append(l, job(a, id))
	}
	return l
}

// allJobs is the longest valid list: three jobs of each label, all with Id 1 first.
func allJobs() []impl.Job {
	var l []impl.Job
	for id := int64(1); id <= 3; id++ {
		for _, a := range allLabels() {
			l = append(l, job(a, id))
		}
	}
	return l
}

// mixedJobs makes a valid list of jobs of a few labels, in any order of labels and with any states.
func mixedJobs(r *rand.Rand) []impl.Job {
	var l []impl.Job
	count := map[impl.Label]int64{}
	for range r.IntN(40) {
		a := label(int64(r.IntN(4)), int64(r.IntN(3)))
		if count[a] < 3 {
			count[a]++
			l = append(l, mixedJob(r, a, count[a]))
		}
	}
	return l
}

// mixedJob makes a valid job.
func mixedJob(r *rand.Rand, a impl.Label, id int64) impl.Job {
	j := impl.Job{Label: a, Id: id, Need: 1 + int64(r.IntN(6)), Long: 1 + int64(r.IntN(20)), Prio: int64(r.IntN(10)), State: 1 + int64(r.IntN(4))}
	if j.State == impl.JbRuns {
		j.Start = int64(r.IntN(impl.MaxTime + 1))
		for _, n := range r.Perm(6)[:j.Need] {
			j.Nodes = append(j.Nodes, int64(n))
		}
		slices.Sort(j.Nodes)
	}
	return j
}

// plainJobsRight is what the document says of a list of jobs.
func plainJobsRight(l []impl.Job) bool {
	for i, j := range l {
		earlier := int64(0)
		for _, other := range l[:i] {
			if other.Label == j.Label {
				earlier++
			}
		}
		if !plainJobRight(j) || j.Id != earlier+1 {
			return false
		}
	}
	return len(l) <= 96
}

// plainJobOf is what the document says of JobOf.
func plainJobOf(l []impl.Job, a impl.Label, id int64) impl.Job {
	if plainJobsRight(l) {
		for _, j := range l {
			if j.Label == a && j.Id == id {
				return j
			}
		}
	}
	return impl.Job{}
}

func cloneJobs(l []impl.Job) []impl.Job {
	copied := slices.Clone(l)
	for i := range copied {
		copied[i].Nodes = slices.Clone(copied[i].Nodes)
	}
	return copied
}

func wantJobs(t *testing.T, want bool, l []impl.Job) {
	t.Helper()
	if got := impl.JobsRight(l); got != want {
		t.Errorf("JobsRight of %d jobs, %+v = %v", len(l), l[:min(len(l), 4)], got)
	}
}

func wantJobOf(t *testing.T, want impl.Job, l []impl.Job, a impl.Label, id int64) {
	t.Helper()
	if got := impl.JobOf(l, a, id); !reflect.DeepEqual(got, want) {
		t.Errorf("JobOf(%d jobs, %+v, %+v, %d) = %+v, want %+v", len(l), l[:min(len(l), 4)], a, id, got, want)
	}
}

func TestJobsRight(t *testing.T) {
	low, high := label(0, 0), label(1, 0)
	wantJobs(t, true, nil)
	wantJobs(t, true, []impl.Job{})
	wantJobs(t, true, []impl.Job{job(low, 1), job(high, 1), job(low, 2)})
	wantJobs(t, true, []impl.Job{job(high, 1), job(low, 1), job(high, 2), job(high, 3), job(low, 2)})
	wantJobs(t, false, []impl.Job{job(low, 1), job(high, 2), job(low, 2)})
	wantJobs(t, false, []impl.Job{job(low, 1), job(high, 1), job(low, 1)})
	wantJobs(t, false, []impl.Job{job(low, 1), job(high, 1), job(low, 3)})
	wantJobs(t, false, []impl.Job{job(high, 1), job(low, 2), job(high, 2), job(low, 1)})
	// Labels with the same level, or with the same set, are different ones.
	wantJobs(t, true, []impl.Job{job(label(1, 1), 1), job(label(1, 2), 1), job(label(2, 1), 1), job(label(1, 1), 2), job(label(2, 1), 2)})
	wantJobs(t, false, []impl.Job{job(label(1, 1), 1), job(label(1, 2), 2)})
	wantJobs(t, false, []impl.Job{job(label(1, 1), 1), job(label(2, 1), 2)})
}

// TestJobsRightOfOneLabel tries all short lists of Ids, alone and between jobs of another label.
func TestJobsRightOfOneLabel(t *testing.T) {
	lists := [][]int64{nil}
	for at := 0; at < len(lists); at++ {
		ids := lists[at]
		rising := true
		for i, id := range ids {
			rising = rising && id == int64(i)+1
		}
		rising = rising && len(ids) <= 3
		wantJobs(t, rising, jobsOf(label(2, 3), ids...))
		wantJobs(t, rising, slices.Concat(jobsOf(label(2, 1), 1), jobsOf(label(2, 3), ids...), jobsOf(label(2, 1), 2, 3)))
		if len(ids) < 5 {
			for id := int64(0); id <= 4; id++ {
				lists = append(lists, append(slices.Clone(ids), id))
			}
		}
	}
}

func TestJobsRightOfWrongJobs(t *testing.T) {
	others := slices.Concat(jobsOf(label(1, 1), 1, 2), jobsOf(label(1, 4), 1))
	wantJobs(t, true, others)
	for _, j := range wrongJobs() {
		wantJobs(t, false, []impl.Job{j})
		for at := range len(others) + 1 {
			wantJobs(t, false, slices.Insert(slices.Clone(others), at, j))
		}
	}
	for _, j := range rightJobs() {
		wantJobs(t, j.Id == 1, []impl.Job{j})
		j.Id = 1
		for at := range len(others) + 1 {
			wantJobs(t, true, slices.Insert(slices.Clone(others), at, j))
		}
	}
}

func TestJobsRightLengths(t *testing.T) {
	all := allJobs()
	for n := range all {
		wantJobs(t, true, all[:n])
	}
	wantJobs(t, len(all) == impl.MaxJobs, all)
	for _, a := range allLabels() {
		for _, id := range []int64{1, 2, 3, 4} {
			wantJobs(t, false, append(slices.Clone(all), job(a, id)))
		}
	}
	for at := range all {
		l := slices.Clone(all)
		l[at].Id = l[at].Id%3 + 1
		wantJobs(t, false, l)
		wantJobs(t, at >= 64, slices.Delete(slices.Clone(all), at, at+1))
	}
	for _, n := range []int{impl.MaxList, impl.MaxList + 1, 3 * impl.MaxList} {
		l := slices.Repeat(all, n/len(all)+1)[:n]
		wantJobs(t, false, l)
		wantJobOf(t, impl.Job{}, l, all[0].Label, 1)
		wantJobOf(t, impl.Job{}, make([]impl.Job, n), impl.Label{}, 0)
	}
}

func TestMixedJobs(t *testing.T) {
	r := rand.New(rand.NewPCG(4, 1))
	for range 400 {
		l := mixedJobs(r)
		wantJobs(t, true, l)
		swapped := slices.Clone(l)
		r.Shuffle(len(l), func(i int, k int) { swapped[i], swapped[k] = swapped[k], swapped[i] })
		wantJobs(t, plainJobsRight(swapped), swapped)
		for _, a := range append(allLabels()[:27], label(3, 7), label(4, 0), label(0, 8), label(-1, 0)) {
			for id := int64(-1); id <= 5; id++ {
				wantJobOf(t, plainJobOf(l, a, id), l, a, id)
				wantJobOf(t, plainJobOf(swapped, a, id), swapped, a, id)
			}
		}
	}
}

func TestJobOf(t *testing.T) {
	low, high := label(0, 0), label(1, 0)
	second := job(low, 2)
	second.Prio, second.Long, second.Need, second.State, second.Start, second.Nodes = 5, 7, 2, impl.JbRuns, 3, []int64{1, 4}
	l := []impl.Job{job(low, 1), job(high, 1), second}
	wantJobOf(t, job(low, 1), l, low, 1)
	wantJobOf(t, job(high, 1), l, high, 1)
	wantJobOf(t, second, l, low, 2)
	for _, id := range []int64{math.MinInt64, -1, 0, 3, 4, math.MaxInt64} {
		wantJobOf(t, impl.Job{}, l, low, id)
	}
	wantJobOf(t, impl.Job{}, l, high, 2)
	wantJobOf(t, impl.Job{}, l, high, 0)
	wantJobOf(t, impl.Job{}, l, label(0, 1), 1)
	wantJobOf(t, impl.Job{}, l, label(2, 0), 1)
	wantJobOf(t, impl.Job{}, nil, low, 1)
	wantJobOf(t, impl.Job{}, nil, low, 0)
	wantJobOf(t, impl.Job{}, []impl.Job{}, low, 1)
	for _, a := range wrongLabels() {
		for _, id := range []int64{0, 1, 2} {
			wantJobOf(t, impl.Job{}, l, a, id)
			wantJobOf(t, impl.Job{}, nil, a, id)
		}
	}
	for _, j := range allJobs() {
		wantJobOf(t, j, allJobs(), j.Label, j.Id)
	}
}

// TestJobOfWrongLists asks for jobs that are in the lists, and right themselves.
func TestJobOfWrongLists(t *testing.T) {
	first := jobsOf(label(0, 1), 1, 2)
	for _, j := range wrongJobs() {
		for _, l := range [][]impl.Job{append(slices.Clone(first), j), append([]impl.Job{j}, first...)} {
			wantJobOf(t, impl.Job{}, l, label(0, 1), 1)
			wantJobOf(t, impl.Job{}, l, label(0, 1), 2)
			wantJobOf(t, impl.Job{}, l, j.Label, j.Id)
		}
	}
	for _, l := range [][]impl.Job{
		jobsOf(label(0, 1), 2, 1), jobsOf(label(0, 1), 1, 1), jobsOf(label(0, 1), 1, 3), jobsOf(label(0, 1), 2), jobsOf(label(0, 1), 1, 2, 3, 3),
		slices.Concat(first, jobsOf(label(0, 2), 2)), append(allJobs(), job(label(0, 1), 1)), append(allJobs(), job(label(3, 7), 4)),
	} {
		for id := int64(0); id <= 4; id++ {
			wantJobOf(t, impl.Job{}, l, label(0, 1), id)
		}
	}
}

// TestJobsShareNoMemory writes into the results, as far as they have room, and looks at the arguments.
func TestJobsShareNoMemory(t *testing.T) {
	r := rand.New(rand.NewPCG(4, 2))
	for range 100 {
		l := mixedJobs(r)
		for i := range l {
			// There is room behind the nodes of each job, of those without nodes too.
			l[i].Nodes = append(l[i].Nodes, -7, -7)[:len(l[i].Nodes)]
		}
		before := cloneJobs(l)
		for _, asked := range before {
			impl.JobsRight(l)
			impl.JobRight(asked)
			impl.Ahead(asked, before[0])
			first, second := impl.JobOf(l, asked.Label, asked.Id), impl.JobOf(l, asked.Label, asked.Id)
			first.Nodes = first.Nodes[:cap(first.Nodes)]
			for i := range first.Nodes {
				first.Nodes[i] = -8
			}
			if !reflect.DeepEqual(second, asked) || !reflect.DeepEqual(l, before) {
				t.Fatalf("JobOf %+v shares memory", asked)
			}
		}
		for _, j := range l {
			if room := j.Nodes[len(j.Nodes) : len(j.Nodes)+2]; !slices.Equal(room, []int64{-7, -7}) {
				t.Fatalf("written behind the nodes of %+v", j)
			}
		}
	}
}
