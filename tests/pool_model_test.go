package tests

import (
	"math/rand/v2"
	"slices"

	"loop.example/g00658/impl"
)

// This file has what the document says of pools, written down step by step, and the pools that it is tried on.

// wish is a waiting job.
func wish(a impl.Label, id int64, need int64, long int64, prio int64) impl.Job {
	return impl.Job{Label: a, Id: id, Need: need, Long: long, Prio: prio, State: impl.JbWaits}
}

// onNodes makes a job run since start, with as many nodes as are given.
func onNodes(j impl.Job, start int64, nodes ...int64) impl.Job {
	j.State, j.Need, j.Start, j.Nodes = impl.JbRuns, int64(len(nodes)), start, slices.Clone(nodes)
	return j
}

func inState(j impl.Job, state int64) impl.Job {
	j.State, j.Start, j.Nodes = state, 0, nil
	return j
}

func poolOf(now int64, clear [][]impl.Label, jobs ...impl.Job) impl.Pool {
	return impl.Pool{Clear: clear, Jobs: jobs, Now: now}
}

func clonePool(p impl.Pool) impl.Pool {
	copied := impl.Pool{Jobs: cloneJobs(p.Jobs), Now: p.Now}
	for _, labels := range p.Clear {
		copied.Clear = append(copied.Clear, slices.Clone(labels))
	}
	return copied
}

// alike makes a clearance for each of n nodes, all of the same labels.
func alike(n int, labels ...impl.Label) [][]impl.Label {
	var clear [][]impl.Label
	for range n {
		clear = append(clear, slices.Clone(labels))
	}
	return clear
}

func plainChain(l []impl.Label) bool {
	for i, a := range l {
		if a.Level < 0 || a.Level > 3 || a.Set < 0 || a.Set > 7 {
			return false
		}
		if i > 0 && (a == l[i-1] || !plainBelow(l[i-1], a)) {
			return false
		}
	}
	return len(l) >= 1 && len(l) <= 4
}

func plainCleared(p impl.Pool, n int64, a impl.Label) bool {
	return n < int64(len(p.Clear)) && slices.Contains(p.Clear[n], a)
}

func plainPoolRight(p impl.Pool) bool {
	if len(p.Clear) < 1 || len(p.Clear) > 6 || p.Now < 0 || p.Now > impl.MaxTime-100 || !plainJobsRight(p.Jobs) {
		return false
	}
	for _, labels := range p.Clear {
		if !plainChain(labels) {
			return false
		}
	}
	owner := map[int64]bool{}
	for _, j := range p.Jobs {
		if j.State == impl.JbRuns && (j.Start > p.Now || j.Start+j.Long <= p.Now) {
			return false
		}
		for _, n := range j.Nodes {
			if !plainCleared(p, n, j.Label) || owner[n] {
				return false
			}
			owner[n] = true
		}
	}
	return true
}

func plainSubmit(p impl.Pool, a impl.Label, need int64, long int64, prio int64) impl.PoolOut {
	j := wish(a, 1, need, long, prio)
	if !plainPoolRight(p) || !plainJobRight(j) {
		return impl.PoolOut{Code: impl.ErrForm}
	}
	cleared := int64(0)
	for n := range p.Clear {
		if plainCleared(p, int64(n), a) {
			cleared++
		}
	}
	if cleared < need {
		return impl.PoolOut{Code: impl.ErrLabel}
	}
	for _, other := range p.Jobs {
		if other.Label == a {
			j.Id++
		}
	}
	if j.Id > 3 {
		return impl.PoolOut{Code: impl.ErrFull}
	}
	p = clonePool(p)
	p.Jobs = append(p.Jobs, j)
	return impl.PoolOut{Pool: p, Id: j.Id}
}

// plainChange takes a valid label; what it does with others is tested apart.
func plainChange(p impl.Pool, a impl.Label, id int64, state int64) impl.PoolOut {
	if !plainPoolRight(p) || state != 1 && state != 3 && state != 4 {
		return impl.PoolOut{Code: impl.ErrForm}
	}
	p = clonePool(p)
	for i, j := range p.Jobs {
		if j.Label != a || j.Id != id {
			continue
		}
		if j.State == impl.JbDone || j.State == state {
			return impl.PoolOut{Code: impl.ErrState}
		}
		p.Jobs[i] = inState(j, state)
		return impl.PoolOut{Pool: p}
	}
	return impl.PoolOut{Code: impl.ErrNone}
}

// grid has the steps in which a node is reserved: node first, time second.
type grid map[[2]int64]bool

func (g grid) free(n int64, from int64, to int64) bool {
	for at := from; at < to; at++ {
		if g[[2]int64{n, at}] {
			return false
		}
	}
	return true
}

func (g grid) reserve(nodes []int64, from int64, to int64) {
	for _, n := range nodes {
		for at := from; at < to; at++ {
			g[[2]int64{n, at}] = true
		}
	}
}

// plainPlanOf leaves out the limit of 20 reservations: no more than 12 jobs may ever run on one node.
func plainPlanOf(p impl.Pool) []impl.Slot {
	if !plainPoolRight(p) {
		return nil
	}
	g := grid{}
	var plan []impl.Slot
	for _, j := range plainTurns(p.Jobs) {
		if j.State == impl.JbWaits || j.State == impl.JbRuns {
			if s := plainSlot(p, g, j); s.Nodes != nil {
				plan = append(plan, s)
				g.reserve(s.Nodes, s.Start, s.Start+j.Long)
			}
		}
	}
	return plan
}

// plainTurns sorts by inserting each job before the first one that it is ahead of.
func plainTurns(l []impl.Job) []impl.Job {
	var turns []impl.Job
	for _, j := range l {
		at := 0
		for at < len(turns) && plainAhead(turns[at], j) {
			at++
		}
		turns = slices.Insert(turns, at, j)
	}
	return turns
}

func plainSlot(p impl.Pool, g grid, j impl.Job) impl.Slot {
	s := impl.Slot{Label: j.Label, Id: j.Id}
	stays := j.State == impl.JbRuns
	for _, n := range j.Nodes {
		stays = stays && g.free(n, p.Now, j.Start+j.Long)
	}
	if stays {
		s.Start, s.Nodes = j.Start, j.Nodes
		return s
	}
	for at := p.Now; at <= p.Now+40; at++ {
		var nodes []int64
		for n := range int64(len(p.Clear)) {
			if plainCleared(p, n, j.Label) && g.free(n, at, at+j.Long) {
				nodes = append(nodes, n)
			}
		}
		if int64(len(nodes)) >= j.Need {
			s.Start, s.Nodes = at, nodes[:j.Need]
			return s
		}
	}
	return s
}

func plainAdvance(p impl.Pool) impl.PoolOut {
	if !plainPoolRight(p) {
		return impl.PoolOut{Code: impl.ErrForm}
	}
	if p.Now == impl.MaxTime-100 {
		return impl.PoolOut{Code: impl.ErrFull}
	}
	p = clonePool(p)
	p.Now++
	for i, j := range p.Jobs {
		if j.State == impl.JbRuns && j.Start+j.Long <= p.Now {
			p.Jobs[i] = inState(j, impl.JbDone)
		}
	}
	plan := plainPlanOf(p)
	for i, j := range p.Jobs {
		begun := slices.IndexFunc(plan, func(s impl.Slot) bool { return s.Label == j.Label && s.Id == j.Id && s.Start <= p.Now })
		if begun >= 0 {
			p.Jobs[i] = onNodes(j, plan[begun].Start, plan[begun].Nodes...)
		} else if j.State == impl.JbRuns {
			p.Jobs[i] = inState(j, impl.JbWaits)
		}
	}
	return impl.PoolOut{Pool: p}
}

func plainView(p impl.Pool, a impl.Label) string {
	if !plainPoolRight(p) || a.Level < 0 || a.Level > 3 || a.Set < 0 || a.Set > 7 {
		return ""
	}
	text := impl.PutNum(p.Now)
	for _, j := range plainTurns(p.Jobs) {
		if !plainBelow(j.Label, a) {
			continue
		}
		for _, n := range []int64{j.Label.Level, j.Label.Set, j.Id, j.Need, j.Long, j.Prio, j.State, j.Start, int64(len(j.Nodes))} {
			text += impl.PutNum(n)
		}
		for _, n := range j.Nodes {
			text += impl.PutNum(n)
		}
	}
	return text
}

// mixedChain makes a clearance of one to four labels.
func mixedChain(r *rand.Rand) []impl.Label {
	labels := []impl.Label{label(int64(r.IntN(2)), int64(r.IntN(8))&int64(r.IntN(8)))}
	for range r.IntN(6) {
		next := labels[len(labels)-1]
		next.Level = min(3, next.Level+int64(r.IntN(2)))
		next.Set |= 1 << r.IntN(3)
		if r.IntN(2) == 0 {
			next.Set = labels[len(labels)-1].Set
		}
		if next != labels[len(labels)-1] && len(labels) < 4 {
			labels = append(labels, next)
		}
	}
	return labels
}

// mixedClear makes the clearances of one to six nodes, some of which are alike.
func mixedClear(r *rand.Rand) [][]impl.Label {
	clear := [][]impl.Label{mixedChain(r)}
	for range r.IntN(6) {
		labels := mixedChain(r)
		if r.IntN(2) == 0 {
			labels = slices.Clone(clear[r.IntN(len(clear))])
		}
		clear = append(clear, labels)
	}
	return clear
}

// mixedPool makes a valid pool, not only such that come of operations: its jobs may have labels without nodes, and run beside more urgent ones.
func mixedPool(r *rand.Rand) impl.Pool {
	p := poolOf([]int64{0, 1, 7, 40, 1000, impl.MaxTime - 101, impl.MaxTime - 100}[r.IntN(7)], mixedClear(r))
	labels := slices.Concat(p.Clear...)
	count := map[impl.Label]int64{}
	taken := map[int64]bool{}
	for range r.IntN(30) {
		a := labels[r.IntN(len(labels))]
		if r.IntN(12) == 0 {
			a = allLabels()[r.IntN(32)]
		}
		if count[a] == 3 {
			continue
		}
		count[a]++
		j := wish(a, count[a], 1+int64(r.IntN(r.IntN(6)+1)), 1+int64(r.IntN(20)), int64(r.IntN(10)))
		switch r.IntN(5) {
		case 0:
			j.State = impl.JbDone
		case 1:
			j.State = impl.JbHeld
		case 2, 3:
			j = startedIn(r, p, j, taken)
		}
		p.Jobs = append(p.Jobs, j)
	}
	return p
}

// startedIn makes a job run if there are nodes for it; it takes any of them.
func startedIn(r *rand.Rand, p impl.Pool, j impl.Job, taken map[int64]bool) impl.Job {
	var nodes []int64
	for _, n := range r.Perm(len(p.Clear)) {
		if !taken[int64(n)] && plainCleared(p, int64(n), j.Label) && len(nodes) < int(j.Need) {
			nodes = append(nodes, int64(n))
		}
	}
	if len(nodes) < int(j.Need) {
		return j
	}
	slices.Sort(nodes)
	for _, n := range nodes {
		taken[n] = true
	}
	return onNodes(j, max(0, p.Now-int64(r.IntN(int(j.Long)))), nodes...)
}
