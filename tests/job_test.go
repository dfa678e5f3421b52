package tests

import (
	"fmt"
	"math"
	"slices"
	"testing"

	"loop.example/g00658/impl"
)

var jobStates = []int64{impl.JbWaits, impl.JbRuns, impl.JbDone, impl.JbHeld}

// job is a waiting job that asks for as little as possible.
func job(a impl.Label, id int64) impl.Job {
	return impl.Job{Label: a, Id: id, Need: 1, Long: 1, State: impl.JbWaits}
}

// running is a running job that needs as many nodes as it is given.
func running(start int64, nodes ...int64) impl.Job {
	j := job(label(1, 2), 1)
	j.State, j.Need, j.Start, j.Nodes = impl.JbRuns, int64(len(nodes)), start, slices.Clone(nodes)
	return j
}

// rightJobs lists a valid job of each state with least, middle and greatest values.
func rightJobs() []impl.Job {
	var right []impl.Job
	for _, state := range jobStates {
		for _, j := range []impl.Job{
			{Label: label(0, 0), Id: 1, Need: 1, Long: 1, Prio: 0},
			{Label: label(2, 5), Id: 2, Need: 3, Long: 7, Prio: 5},
			{Label: label(3, 7), Id: 3, Need: 6, Long: 20, Prio: 9},
		} {
			j.State = state
			if state == impl.JbRuns {
				j.Start = 9
				j.Nodes = []int64{0, 1, 2, 3, 4, 5}[6-j.Need:]
			}
			right = append(right, j)
		}
	}
	return right
}

// wrongNums lists numbers far outside what any field may be.
func wrongNums() []int64 {
	return []int64{math.MinInt64, math.MinInt64 + 1, -(1 << 32), -256, 256, impl.MaxTime + 1, 1 << 32, 1<<32 + 1, 1<<56 + 1, math.MaxInt64}
}

// wrongJobs lists jobs that are wrong in one way each.
func wrongJobs() []impl.Job {
	wrong := []impl.Job{{}}
	for _, right := range rightJobs() {
		for _, n := range append(wrongNums(), -1, 21) {
			wrong = append(wrong, withFields(right, n)...)
		}
		for _, a := range wrongLabels() {
			j := right
			j.Label = a
			wrong = append(wrong, j)
		}
	}
	return append(wrong, wrongRunning()...)
}

// withFields sets one field of a job at a time to a number that is wrong for each of them.
func withFields(j impl.Job, n int64) []impl.Job {
	l := []impl.Job{j, j, j, j, j}
	l[0].Id, l[1].Need, l[2].Long, l[3].Prio, l[4].State = n, n, n, n, n
	return l
}

// wrongRunning lists jobs with a wrong start, wrong nodes, or any of them where there should be none.
func wrongRunning() []impl.Job {
	wrong := []impl.Job{
		running(0, 6), running(0, -1), running(0, 1, 1), running(0, 2, 1), running(0, 0, 1, 1), running(0, 3, 5, 4), running(0, 4, 5, 6),
		running(0, 0, 1, 2, 3, 4, 5, 6), running(0, math.MinInt64), running(0, math.MaxInt64), running(0, 0, math.MaxInt64), running(0, 0, math.MinInt64),
		running(-1, 0), running(impl.MaxTime+1, 0), running(math.MinInt64, 0), running(math.MaxInt64, 0),
	}
	for _, state := range []int64{0, impl.JbWaits, impl.JbDone, impl.JbHeld, 5} {
		for _, j := range []impl.Job{running(0, 0), running(7, 0), running(1), running(-1), running(impl.MaxTime), running(math.MinInt64), running(0, 0, 1), running(0, 7)} {
			j.State, j.Need = state, 1
			wrong = append(wrong, j)
		}
	}
	return wrong
}

// plainJobRight is what the document says of a valid job.
func plainJobRight(j impl.Job) bool {
	between := func(n int64, least int64, most int64) bool { return least <= n && n <= most }
	if !between(j.Label.Level, 0, 3) || !between(j.Label.Set, 0, 7) || !between(j.Id, 1, 3) {
		return false
	}
	if !between(j.Need, 1, 6) || !between(j.Long, 1, 20) || !between(j.Prio, 0, 9) || !slices.Contains(jobStates, j.State) {
		return false
	}
	if j.State != impl.JbRuns {
		return j.Start == 0 && len(j.Nodes) == 0
	}
	for i, n := range j.Nodes {
		if !between(n, 0, 5) || i > 0 && j.Nodes[i-1] >= n {
			return false
		}
	}
	return between(j.Start, 0, impl.MaxTime) && len(j.Nodes) == int(j.Need)
}

// nodeLists lists all lists of numbers from -1 to 6 of a length.
func nodeLists(length int) [][]int64 {
	if length == 0 {
		return [][]int64{nil}
	}
	var all [][]int64
	for _, l := range nodeLists(length - 1) {
		for n := int64(-1); n <= 6; n++ {
			all = append(all, append(slices.Clone(l), n))
		}
	}
	return all
}

// rising lists all strictly increasing lists of the nodes 0 to 5, the empty one too.
func rising() [][]int64 {
	var all [][]int64
	for set := range 64 {
		var l []int64
		for n := range int64(6) {
			if set>>n&1 == 1 {
				l = append(l, n)
			}
		}
		all = append(all, l)
	}
	return all
}

func wantJob(t *testing.T, want bool, j impl.Job) {
	t.Helper()
	if got := impl.JobRight(j); got != want {
		t.Errorf("JobRight(%+v) = %v", j, got)
	}
}

func TestJobConstants(t *testing.T) {
	got := fmt.Sprint(impl.MaxJobs, impl.MaxOf, impl.JbWaits, impl.JbRuns, impl.JbDone, impl.JbHeld)
	if got != "96 3 1 2 3 4" {
		t.Errorf("constants %s", got)
	}
}

func TestJobRight(t *testing.T) {
	for _, j := range rightJobs() {
		wantJob(t, true, j)
	}
	for _, j := range wrongJobs() {
		wantJob(t, false, j)
	}
}

// TestJobRightFields sets each field of valid jobs to every number around its limits.
func TestJobRightFields(t *testing.T) {
	nums := wrongNums()
	for n := int64(-3); n <= 25; n++ {
		nums = append(nums, n)
	}
	for _, right := range rightJobs() {
		for _, n := range append(nums, impl.MaxTime-1, impl.MaxTime) {
			for _, set := range []func(*impl.Job){
				func(j *impl.Job) { j.Label.Level = n },
				func(j *impl.Job) { j.Label.Set = n },
				func(j *impl.Job) { j.Id = n },
				func(j *impl.Job) { j.Need = n },
				func(j *impl.Job) { j.Long = n },
				func(j *impl.Job) { j.Prio = n },
				func(j *impl.Job) { j.State = n },
				func(j *impl.Job) { j.Start = n },
				func(j *impl.Job) { j.Nodes = []int64{n} },
				func(j *impl.Job) { j.Need, j.Nodes = 1, []int64{n} },
				func(j *impl.Job) { j.Need, j.Nodes = 2, []int64{2, n} },
			} {
				j := right
				set(&j)
				wantJob(t, plainJobRight(j), j)
			}
		}
	}
}

func TestJobRightLimits(t *testing.T) {
	base := job(label(0, 0), 1)
	for n, want := range map[int64]bool{0: false, 1: true, 2: true, 3: true, 4: false} {
		j := base
		j.Id = n
		wantJob(t, want, j)
	}
	for n, want := range map[int64]bool{-1: false, 0: false, 1: true, 6: true, 7: false} {
		j := base
		j.Need = n
		wantJob(t, want, j)
	}
	for n, want := range map[int64]bool{-1: false, 0: false, 1: true, 20: true, 21: false} {
		j := base
		j.Long = n
		wantJob(t, want, j)
	}
	for n, want := range map[int64]bool{-1: false, 0: true, 9: true, 10: false} {
		j := base
		j.Prio = n
		wantJob(t, want, j)
	}
	for n, want := range map[int64]bool{-1: false, 0: false, 1: true, 2: false, 3: true, 4: true, 5: false} {
		j := base
		j.State = n
		wantJob(t, want, j)
	}
	for n, want := range map[int64]bool{-1: false, 0: true, 1: true, impl.MaxTime: true, impl.MaxTime + 1: false} {
		wantJob(t, want, running(n, 3))
	}
}

func TestJobRightNodes(t *testing.T) {
	for length := range 5 {
		for _, nodes := range nodeLists(length) {
			j := running(4, nodes...)
			wantJob(t, plainJobRight(j), j)
		}
	}
	for _, nodes := range rising() {
		for need := int64(0); need <= 7; need++ {
			j := running(4, nodes...)
			j.Need = need
			wantJob(t, need > 0 && need == int64(len(nodes)), j)
			slices.Reverse(j.Nodes)
			wantJob(t, need == 1 && len(nodes) == 1, j)
			for _, state := range []int64{impl.JbWaits, impl.JbDone, impl.JbHeld} {
				j.State, j.Start = state, 0
				wantJob(t, need >= 1 && need <= 6 && len(nodes) == 0, j)
			}
		}
	}
	wantJob(t, true, running(0, 0, 1, 2, 3, 4, 5))
	for _, n := range []int{impl.MaxList, impl.MaxList + 1} {
		wantJob(t, false, running(0, make([]int64, n)...))
	}
}

func TestJobRightTakesNoNodesAndEmptyNodesAlike(t *testing.T) {
	for _, state := range []int64{impl.JbWaits, impl.JbDone, impl.JbHeld} {
		j := job(label(0, 0), 1)
		j.State = state
		wantJob(t, true, j)
		j.Nodes = []int64{}
		wantJob(t, true, j)
		j.Nodes = []int64{7, 7}[:0]
		wantJob(t, true, j)
	}
	j := running(0)
	j.Need, j.Nodes = 1, []int64{}
	wantJob(t, false, j)
}
