package tests

import (
	"cmp"
	"math/rand/v2"
	"slices"

	"loop.example/g00658/impl"
)

// This file has what the document says of yards, written down step by step, and the yards that it is tried on.

// wishFor is a wish for so many nodes, which depends on nothing.
func wishFor(nodes int64) impl.Wish {
	return impl.Wish{Owner: "ann", Need: nodes, Long: 1, Count: 1}
}

// wishAfter makes a wish depend on a task.
func wishAfter(w impl.Wish, under impl.Label, id int64) impl.Wish {
	w.Under, w.After = under, id
	return w
}

// placed gives a task a state, a start and as many nodes as it needs.
func placed(t impl.Task, state int64, start int64, nodes ...int64) impl.Task {
	t.State, t.Need = state, int64(len(nodes))
	return taskAt(t, start, nodes...)
}

// emptyYard is what a new yard looks like.
func emptyYard(c impl.Config) impl.Yard {
	return impl.Yard{Config: c, Nodes: sameNodes(len(c.Nodes))}
}

// busyYard has tasks of several labels in each state, two of which have reserved places, at time 9.
func busyYard() impl.Yard {
	low, middle, side, high := label(0, 0), label(1, 0), label(1, 1), label(2, 1)
	tasks := chainOf(low, impl.TkDone, impl.TkWaits, impl.TkWaits, impl.TkHeld, impl.TkOver, impl.TkGone, impl.TkWaits)
	tasks[1] = placed(tasks[1], impl.TkRuns, 7, 1)
	tasks[1].Long, tasks[1].Prio, tasks[1].Born = 5, 3, 2
	tasks[2] = placed(tasks[2], impl.TkWaits, 13, 0, 1)
	tasks[3].Owner, tasks[3].Need = longName, 2
	first, second := placed(task(middle, 1), impl.TkRuns, 9, 0, 2), after(task(middle, 2), low, 3)
	first.Long, first.Owner, second.Born = 20, "bob", 9
	tasks = append(tasks, first, second, taskIn(task(side, 1), impl.TkHeld), after(placed(task(high, 1), impl.TkWaits, 49, 0), middle, 2))
	return impl.Yard{
		Config: plainConfig(),
		Nodes:  []impl.Node{node(impl.NdUp, 12, 14), node(impl.NdDrains), node(impl.NdUp, 10, 11, 20, 30)},
		Tasks:  tasks,
		Uses:   []impl.Use{use(low, "ann", 3), use(low, "bob", 5), use(middle, "ann", 1), use(high, longName, impl.MaxUse)},
		Now:    9,
	}
}

// fullYard has as many tasks, uses and reservations as there may be.
func fullYard() impl.Yard {
	y := impl.Yard{Config: fullConfig(), Nodes: fullNodes(), Now: 9}
	for i, a := range plainLabelsOf(y.Config) {
		tasks := tasksOf(a, 1, 2, 3, 4, 5, 6, 7, 8, 9, 10, 11, 12)
		for k := range tasks[:3] {
			tasks[k] = taskIn(tasks[k], impl.TkDone+int64(k))
		}
		for k := range tasks[4:] {
			tasks[4+k] = after(tasks[4+k], a, int64(k)+1)
		}
		// The nodes 0 to 5 are each cleared for one of these labels at least.
		nodes := plainNodesFor(y.Config, a)
		if n := nodes[len(nodes)-1]; plainRunner(y.Tasks, n) < 0 {
			tasks[3] = placed(tasks[3], impl.TkRuns, 9-int64(i%2), n)
		}
		tasks[4] = placed(tasks[4], impl.TkWaits, 10+39*int64(i%2), nodes...)
		y.Tasks = append(y.Tasks, tasks...)
		for _, owner := range rightNames()[:6] {
			y.Uses = append(y.Uses, use(a, owner, int64(i)+1))
		}
	}
	return y
}

func cloneYard(y impl.Yard) impl.Yard {
	return impl.Yard{Config: cloneConfig(y.Config), Nodes: cloneNodes(y.Nodes), Tasks: cloneTasks(y.Tasks), Uses: slices.Clone(y.Uses), Now: y.Now}
}

// withYard returns a copy of a yard that has been changed.
func withYard(y impl.Yard, change func(y *impl.Yard)) impl.Yard {
	y = cloneYard(y)
	change(&y)
	return y
}

// sameYard takes nil and an empty slice as equal.
func sameYard(a impl.Yard, b impl.Yard) bool {
	return sameConfig(a.Config, b.Config) && equalNodes(a.Nodes, b.Nodes) && sameTasks(a.Tasks, b.Tasks) && slices.Equal(a.Uses, b.Uses) && a.Now == b.Now
}

// plainRunner returns the index of the task that runs on a node, or -1.
func plainRunner(l []impl.Task, n int64) int {
	return slices.IndexFunc(l, func(t impl.Task) bool { return t.State == 2 && slices.Contains(t.Nodes, n) })
}

func plainWishRight(w impl.Wish) bool {
	// All but the dependency and the count is what a task of that label would have.
	t := impl.Task{Label: label(3, 7), Id: 1, Owner: w.Owner, Need: w.Need, Long: w.Long, Prio: w.Prio, State: 1}
	depends := w.After >= 1 && w.After <= 12 && plainLabelRight(w.Under)
	alone := w.After == 0 && w.Under == label(0, 0)
	return plainTaskRight(t) && (depends || alone) && w.Count >= 1 && w.Count <= 4
}

func plainYardRight(y impl.Yard) bool {
	if !plainConfigRight(y.Config) || len(y.Nodes) != len(y.Config.Nodes) || !plainNodesRight(y.Nodes) || !plainTasksRight(y.Tasks) || !plainUsesRight(y.Uses) {
		return false
	}
	if y.Now < 0 || y.Now > 1000000-100 {
		return false
	}
	labels := plainLabelsOf(y.Config)
	for _, a := range labels {
		if plainLiveOf(y.Tasks, a) > plainQuotaOf(y.Config, a) {
			return false
		}
	}
	for _, u := range y.Uses {
		if !slices.Contains(labels, u.Label) {
			return false
		}
	}
	for i, t := range y.Tasks {
		if !plainTaskFits(y, t) || slices.ContainsFunc(t.Nodes, func(n int64) bool { return t.State == 2 && plainRunner(y.Tasks, n) != i }) {
			return false
		}
	}
	return true
}

func plainTaskFits(y impl.Yard, t impl.Task) bool {
	cleared := plainNodesFor(y.Config, t.Label)
	if int(t.Need) > len(cleared) || t.Born > y.Now {
		return false
	}
	for _, n := range t.Nodes {
		if !slices.Contains(cleared, n) {
			return false
		}
	}
	if t.State == 2 {
		return t.Start <= y.Now && y.Now < t.Start+1+t.Long
	}
	return len(t.Nodes) == 0 || y.Now < t.Start && t.Start <= y.Now+40
}

func plainYardNew(c impl.Config) impl.YardOut {
	if !plainConfigRight(c) {
		return impl.YardOut{Code: impl.ErrForm}
	}
	return impl.YardOut{Yard: emptyYard(c)}
}

func plainYardSubmit(y impl.Yard, a impl.Label, w impl.Wish) impl.YardOut {
	if !plainYardRight(y) || !plainWishRight(w) {
		return impl.YardOut{Code: impl.ErrForm}
	}
	if len(plainNodesFor(y.Config, a)) < int(w.Need) || w.After > 0 && !plainBelow(w.Under, a) {
		return impl.YardOut{Code: impl.ErrLabel}
	}
	if w.After > 0 && plainFind(y.Tasks, w.Under, w.After) < 0 {
		return impl.YardOut{Code: impl.ErrNone}
	}
	first := int64(1)
	for plainFind(y.Tasks, a, first) >= 0 {
		first++
	}
	if first-1+w.Count > 12 {
		return impl.YardOut{Code: impl.ErrFull}
	}
	if plainLiveOf(y.Tasks, a)+w.Count > plainQuotaOf(y.Config, a) {
		return impl.YardOut{Code: impl.ErrRange}
	}
	y = cloneYard(y)
	for id := first; id < first+w.Count; id++ {
		y.Tasks = append(y.Tasks, impl.Task{Label: a, Id: id, Owner: w.Owner, Need: w.Need, Long: w.Long, Prio: w.Prio, Under: w.Under, After: w.After, Born: y.Now, State: 1})
	}
	slices.SortFunc(y.Tasks, func(s impl.Task, t impl.Task) int {
		return cmp.Or(cmp.Compare(s.Label.Level, t.Label.Level), cmp.Compare(s.Label.Set, t.Label.Set), cmp.Compare(s.Id, t.Id))
	})
	return impl.YardOut{Yard: y, Id: first}
}

// plainYardTask changes the task with a label and an Id, unless it is refused.
func plainYardTask(y impl.Yard, a impl.Label, id int64, argsRight bool, change func(t *impl.Task) int64) impl.YardOut {
	if !plainYardRight(y) || !argsRight {
		return impl.YardOut{Code: impl.ErrForm}
	}
	if !slices.Contains(plainLabelsOf(y.Config), a) {
		return impl.YardOut{Code: impl.ErrLabel}
	}
	at := plainFind(y.Tasks, a, id)
	if at < 0 {
		return impl.YardOut{Code: impl.ErrNone}
	}
	y = cloneYard(y)
	if code := change(&y.Tasks[at]); code != impl.OK {
		return impl.YardOut{Code: code}
	}
	y.Tasks[at].Start, y.Tasks[at].Nodes = 0, nil
	return impl.YardOut{Yard: y}
}

// plainYardTurn gives a task that has one of some states another one.
func plainYardTurn(y impl.Yard, a impl.Label, id int64, to int64, from ...int64) impl.YardOut {
	return plainYardTask(y, a, id, true, func(t *impl.Task) int64 {
		if !slices.Contains(from, t.State) {
			return impl.ErrState
		}
		t.State = to
		return impl.OK
	})
}

func plainYardCancel(y impl.Yard, a impl.Label, id int64) impl.YardOut {
	return plainYardTurn(y, a, id, 6, 1, 2, 3)
}

func plainYardHold(y impl.Yard, a impl.Label, id int64) impl.YardOut {
	return plainYardTurn(y, a, id, 3, 1)
}

func plainYardFree(y impl.Yard, a impl.Label, id int64) impl.YardOut {
	return plainYardTurn(y, a, id, 1, 3)
}

func plainYardFinish(y impl.Yard, a impl.Label, id int64) impl.YardOut {
	if t := plainTaskOf(y.Tasks, a, id); t.State == 2 && t.Start == y.Now && plainYardRight(y) {
		return impl.YardOut{Code: impl.ErrState}
	}
	return plainYardTurn(y, a, id, 4, 2)
}

func plainYardModify(y impl.Yard, a impl.Label, id int64, need int64, long int64, prio int64) impl.YardOut {
	argsRight := need >= 1 && need <= 6 && long >= 1 && long <= 20 && prio >= 0 && prio <= 9
	return plainYardTask(y, a, id, argsRight, func(t *impl.Task) int64 {
		if t.State != 1 && t.State != 3 {
			return impl.ErrState
		}
		if int(need) > len(plainNodesFor(y.Config, a)) {
			return impl.ErrLabel
		}
		t.Need, t.Long, t.Prio = need, long, prio
		return impl.OK
	})
}

// plainYardNodes puts changed nodes into a yard, or keeps nothing but the code.
func plainYardNodes(y impl.Yard, out impl.NodesOut) impl.YardOut {
	if !plainYardRight(y) {
		return impl.YardOut{Code: impl.ErrForm}
	}
	if out.Code != impl.OK {
		return impl.YardOut{Code: out.Code}
	}
	y = cloneYard(y)
	y.Nodes = out.Nodes
	return impl.YardOut{Yard: y}
}

func plainYardNode(y impl.Yard, n int64, state int64) impl.YardOut {
	out := plainYardNodes(y, plainNodeSet(y.Nodes, n, state))
	for i, t := range out.Yard.Tasks {
		if state == impl.NdDown && t.State == 2 && slices.Contains(t.Nodes, n) {
			t.State = 1
			out.Yard.Tasks[i] = taskAt(t, 0)
		}
	}
	return out
}

func plainYardBook(y impl.Yard, n int64, x impl.Span) impl.YardOut {
	return plainYardNodes(y, plainBookPut(y.Nodes, n, x, y.Now))
}

func plainYardUnbook(y impl.Yard, n int64, from int64) impl.YardOut {
	return plainYardNodes(y, plainBookCut(y.Nodes, n, from))
}

func plainYardView(y impl.Yard, a impl.Label) string {
	if !plainYardRight(y) || !plainLabelRight(a) {
		return ""
	}
	text := numText(y.Now)
	for _, d := range y.Nodes {
		text += numText(d.State, int64(len(d.Books)))
		for _, x := range d.Books {
			text += numText(x.From, x.To)
		}
	}
	for _, t := range y.Tasks {
		if plainBelow(t.Label, a) {
			text += roughTaskBytes(t)
		}
	}
	for _, u := range y.Uses {
		if plainBelow(u.Label, a) {
			text += numText(u.Label.Level, u.Label.Set) + lined(u.Owner) + numText(u.Used)
		}
	}
	return text
}

// mixedYard makes a valid yard, not only such as come of calls.
func mixedYard(r *rand.Rand) impl.Yard {
	y := emptyYard(mixedConfig(r))
	y.Now = []int64{0, 1, 7, 40, 1000, lastBorn - 1, lastBorn}[r.IntN(7)]
	for n := range y.Nodes {
		y.Nodes[n] = impl.Node{State: 1 + r.Int64N(3), Books: mixedBooks(r, y.Now)}
	}
	for _, a := range plainLabelsOf(y.Config) {
		for id := range r.Int64N(13) {
			y.Tasks = append(y.Tasks, mixedYardTask(r, y, a, id+1))
		}
		for _, owner := range rightNames()[:r.IntN(7)] {
			y.Uses = append(y.Uses, use(a, owner, mixedUsed(r)))
		}
	}
	return y
}

// mixedYardTask makes the next task of a yard, which fits it.
func mixedYardTask(r *rand.Rand, y impl.Yard, a impl.Label, id int64) impl.Task {
	cleared := plainNodesFor(y.Config, a)
	t := impl.Task{Label: a, Id: id, Owner: rightNames()[r.IntN(len(rightNames()))], Need: 1 + r.Int64N(int64(len(cleared))), Long: 1 + r.Int64N(20), Prio: r.Int64N(10), Born: r.Int64N(y.Now + 1), State: 4 + r.Int64N(3)}
	below := slices.DeleteFunc(slices.Clone(y.Tasks), func(u impl.Task) bool { return !plainBelow(u.Label, a) })
	if len(below) > 0 && r.IntN(2) == 0 {
		u := below[r.IntN(len(below))]
		t = after(t, u.Label, u.Id)
	}
	if plainLiveOf(y.Tasks, a) == plainQuotaOf(y.Config, a) || r.IntN(4) == 0 {
		return t
	}
	t.State = []int64{1, 1, 2, 2, 3}[r.IntN(5)]
	free := slices.DeleteFunc(slices.Clone(cleared), func(n int64) bool { return t.State == 2 && plainRunner(y.Tasks, n) >= 0 })
	switch {
	case t.State == 2 && len(free) < int(t.Need):
		t.State = 1
	case t.State == 2:
		t = taskAt(t, max(0, y.Now-r.Int64N(t.Long+1)), someOf(r, free, t.Need)...)
	case t.State == 1 && r.IntN(2) == 0:
		t = taskAt(t, y.Now+1+r.Int64N(40), someOf(r, free, t.Need)...)
	}
	return t
}

// someOf picks so many of the nodes.
func someOf(r *rand.Rand, nodes []int64, need int64) []int64 {
	r.Shuffle(len(nodes), func(i int, k int) { nodes[i], nodes[k] = nodes[k], nodes[i] })
	return slices.Sorted(slices.Values(nodes[:need]))
}

// spoilYard changes one thing of a yard, which may stay valid.
func spoilYard(r *rand.Rand, y *impl.Yard) {
	switch r.IntN(8) {
	case 0:
		spoilConfig(r, &y.Config)
	case 1:
		y.Nodes = spoilNodes(r, y.Nodes)
	case 2:
		y.Uses = spoilUses(r, y.Uses)
	case 3:
		y.Tasks = spoilTasks(r, y.Tasks)
	case 4, 5:
		y.Now += r.Int64N(5) - 2
	default:
		if len(y.Tasks) > 0 {
			t := &y.Tasks[r.IntN(len(y.Tasks))]
			*t = spoilTask(r, *t)
		}
	}
}
