package tests

import (
	"math/rand/v2"
	"slices"

	"loop.example/g00658/impl"
)

// This file has what the document says of plans and epochs, written down step by step, and the yards that it is tried on.

// asking makes a waiting task that asks for so many nodes and epochs.
func asking(a impl.Label, id int64, need int64, long int64) impl.Task {
	x := task(a, id)
	x.Need, x.Long = need, long
	return x
}

// onSince makes a task of so many epochs that has run since start.
func onSince(a impl.Label, id int64, long int64, start int64, nodes ...int64) impl.Task {
	return placed(asking(a, id, 1, long), impl.TkRuns, start, nodes...)
}

// dueAt makes a waiting task of so many epochs with a reserved place.
func dueAt(a impl.Label, id int64, long int64, start int64, nodes ...int64) impl.Task {
	return placed(asking(a, id, 1, long), impl.TkWaits, start, nodes...)
}

// ranked gives a task a priority and a time at which it was born.
func ranked(x impl.Task, prio int64, born int64) impl.Task {
	x.Prio, x.Born = prio, born
	return x
}

func ownedBy(x impl.Task, owner string) impl.Task {
	x.Owner = owner
	return x
}

// starting is the place of a task that is to start.
func starting(a impl.Label, id int64, from int64, to int64, nodes ...int64) impl.Place {
	return impl.Place{Label: a, Id: id, From: from, To: to, Nodes: nodes}
}

// going is the place of a task that goes on where it runs.
func going(a impl.Label, id int64, from int64, to int64, nodes ...int64) impl.Place {
	return impl.Place{Label: a, Id: id, From: from, To: to, Runs: true, Nodes: nodes}
}

// openTo is a configuration with n nodes, all of which are cleared for the same labels.
func openTo(n int, labels ...impl.Label) impl.Config {
	return impl.Config{Nodes: alike(n, labels...), Half: 4}
}

// withNode replaces a node of a yard.
func withNode(y impl.Yard, n int, d impl.Node) impl.Yard {
	return withYard(y, func(y *impl.Yard) { y.Nodes[n] = d })
}

// samePlaces takes nil and an empty slice as equal.
func samePlaces(a []impl.Place, b []impl.Place) bool {
	return slices.EqualFunc(a, b, func(s impl.Place, u impl.Place) bool {
		return s.Label == u.Label && s.Id == u.Id && s.From == u.From && s.To == u.To && s.Runs == u.Runs && slices.Equal(s.Nodes, u.Nodes)
	})
}

// plainRankIn returns the rank of a task of a yard.
func plainRankIn(y impl.Yard, x impl.Task) int64 {
	used := int64(0)
	if at := plainAt(y.Uses, x.Label, x.Owner); at >= 0 {
		used = y.Uses[at].Used
	}
	return plainRank(x.Prio, y.Now-x.Born, used)
}

// plainIsReady reports whether a task of a list waits for no other one.
func plainIsReady(l []impl.Task, x impl.Task) bool {
	return x.State == 1 && (x.After == 0 || l[plainFind(l, x.Under, x.After)].State == 4)
}

// plainTurn puts each task before the first one of its label that has less rank.
func plainTurn(y impl.Yard) []impl.Task {
	var l []impl.Task
	for _, x := range y.Tasks {
		if x.State != 2 && !plainIsReady(y.Tasks, x) {
			continue
		}
		at, rank := 0, plainRankIn(y, x)
		for at < len(l) && (l[at].Label != x.Label || plainRankIn(y, l[at]) >= rank) {
			at++
		}
		l = slices.Insert(l, at, x)
	}
	return l
}

func plainTaskOrder(y impl.Yard) []impl.Task {
	if !plainYardRight(y) {
		return nil
	}
	return plainTurn(y)
}

func (g grid) release(nodes []int64, from int64, to int64) {
	for _, n := range nodes {
		for at := from; at < to; at++ {
			delete(g, [2]int64{n, at})
		}
	}
}

// sheet is a plan in the making, and the epochs for which its places, and those that are kept meanwhile, take a node.
type sheet struct {
	y      impl.Yard
	taken  grid
	places []impl.Place
}

func (s *sheet) occupied(n int64, at int64, starts bool) bool {
	d := s.y.Nodes[n]
	if d.State == 3 || d.State == 2 && starts {
		return true
	}
	for _, x := range d.Books {
		if x.From <= at && at < x.To {
			return true
		}
	}
	return s.taken[[2]int64{n, at}]
}

func (s *sheet) free(nodes []int64, from int64, to int64, starts bool) bool {
	for _, n := range nodes {
		for at := from; at < to; at++ {
			if s.occupied(n, at, starts) {
				return false
			}
		}
	}
	return true
}

func (s *sheet) put(x impl.Place) {
	s.taken.reserve(x.Nodes, x.From, x.To)
	s.places = append(s.places, x)
}

// first returns the place with the least start up to last; it has no nodes if there is none.
func (s *sheet) first(x impl.Task, last int64) impl.Place {
	for from := s.y.Now; from <= last; from++ {
		to := from + 1 + x.Long
		nodes := slices.DeleteFunc(plainNodesFor(s.y.Config, x.Label), func(n int64) bool { return !s.free([]int64{n}, from, to, true) })
		if int64(len(nodes)) >= x.Need {
			return starting(x.Label, x.Id, from, to, nodes[:x.Need]...)
		}
	}
	return impl.Place{}
}

// planLabel has the four steps of the document.
func (s *sheet) planLabel(tasks []impl.Task) {
	has := map[int64]bool{}
	for _, x := range tasks {
		if x.State != 2 || !s.free(x.Nodes, s.y.Now, s.y.Now+1, false) {
			continue
		}
		to := x.Start + 1 + x.Long
		for at := to - 1; at > s.y.Now; at-- {
			if !s.free(x.Nodes, at, at+1, false) {
				to = at
			}
		}
		s.put(going(x.Label, x.Id, s.y.Now, to, x.Nodes...))
		has[x.Id] = true
	}
	var kept []impl.Task
	for _, x := range tasks {
		if x.State == 1 && len(x.Nodes) > 0 && s.free(x.Nodes, x.Start, x.Start+1+x.Long, true) {
			s.taken.reserve(x.Nodes, x.Start, x.Start+1+x.Long)
			kept = append(kept, x)
		}
	}
	for _, x := range kept {
		s.taken.release(x.Nodes, x.Start, x.Start+1+x.Long)
		place := s.first(x, x.Start)
		if place.From == x.Start {
			place.Nodes = x.Nodes
		}
		s.put(place)
		has[x.Id] = true
	}
	for _, x := range tasks {
		if place := s.first(x, s.y.Now+40); !has[x.Id] && len(place.Nodes) > 0 {
			s.put(place)
		}
	}
}

// plainSheet plans the labels up to the last one.
func plainSheet(y impl.Yard, last impl.Label) *sheet {
	s := &sheet{y: y, taken: grid{}}
	turn := plainTurn(y)
	for _, a := range plainLabelsOf(y.Config) {
		s.planLabel(slices.DeleteFunc(slices.Clone(turn), func(x impl.Task) bool { return x.Label != a }))
		if a == last {
			break
		}
	}
	return s
}

func plainYardPlan(y impl.Yard) []impl.Place {
	if !plainYardRight(y) {
		return nil
	}
	return plainSheet(y, label(3, 7)).places
}

func plainLeast(y impl.Yard, a impl.Label, need int64, long int64) int64 {
	if !plainYardRight(y) || !slices.Contains(plainLabelsOf(y.Config), a) || need < 1 || need > 6 || long < 1 || long > 20 {
		return -1
	}
	place := plainSheet(y, a).first(asking(a, 1, need, long), y.Now+40)
	if len(place.Nodes) == 0 {
		return -1
	}
	return place.From
}

func plainYardTick(y impl.Yard) impl.YardOut {
	if !plainYardRight(y) {
		return impl.YardOut{Code: impl.ErrForm}
	}
	if y.Now == 1000000-100 {
		return impl.YardOut{Code: impl.ErrFull}
	}
	y = cloneYard(y)
	for _, x := range y.Tasks {
		if x.State == 2 {
			y.Uses = plainUseAdd(y.Uses, x.Label, x.Owner, x.Need)
		}
	}
	y.Now++
	if y.Now%y.Config.Half == 0 {
		y.Uses = plainUsesHalf(y.Uses)
	}
	for i, x := range y.Tasks {
		if x.State == 2 && x.Start+1+x.Long <= y.Now {
			x.State = 5
			y.Tasks[i] = taskAt(x, 0)
		}
	}
	y.Tasks = plainOrphans(y.Tasks)
	y.Nodes = plainBooksPass(y.Nodes, y.Now)
	plan := plainSheet(y, label(3, 7)).places
	for i, x := range y.Tasks {
		y.Tasks[i] = plainApplied(plan, x, y.Now)
	}
	return impl.YardOut{Yard: y}
}

// plainApplied returns what a plan makes of a task.
func plainApplied(plan []impl.Place, x impl.Task, now int64) impl.Task {
	at := slices.IndexFunc(plan, func(s impl.Place) bool { return s.Label == x.Label && s.Id == x.Id })
	switch {
	case at < 0 && (x.State == 1 || x.State == 2):
		x.State = 1
		return taskAt(x, 0)
	case at < 0 || plan[at].Runs:
		return x
	case plan[at].From == now:
		x.State = 2
	default:
		x.State = 1
	}
	return taskAt(x, plan[at].From, plan[at].Nodes...)
}

func plainYardTicks(y impl.Yard, n int64) impl.YardOut {
	if n < 1 || n > 50 {
		return impl.YardOut{Code: impl.ErrRange}
	}
	out := impl.YardOut{Yard: y}
	for range n {
		if out = plainYardTick(out.Yard); out.Code != impl.OK {
			break
		}
	}
	return out
}

// tickYard makes a valid yard, not only such as come of calls, whose nodes are more often open than not.
func tickYard(r *rand.Rand) impl.Yard {
	y := mixedYard(r)
	for n := range y.Nodes {
		if r.IntN(3) > 0 {
			y.Nodes[n].State = impl.NdUp
		}
		if r.IntN(2) == 0 {
			y.Nodes[n].Books = nil
		}
	}
	return y
}
