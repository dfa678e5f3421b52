package tests

import (
	"math/rand/v2"
	"testing"

	"loop.example/g00658/impl"
)

// yardCall is a call with all its arguments, and what the document says of it.
type yardCall struct {
	name  string
	call  func(y impl.Yard) impl.YardOut
	plain func(y impl.Yard) impl.YardOut
}

// mixedYardCall makes a call that a yard takes or refuses.
func mixedYardCall(r *rand.Rand, y impl.Yard) yardCall {
	a, w := mixedWish(r, y)
	id, n := 1+r.Int64N(max(3, int64(len(y.Tasks)))), r.Int64N(int64(len(y.Nodes)))
	if len(y.Tasks) > 0 && r.IntN(8) > 0 {
		x := y.Tasks[r.IntN(len(y.Tasks))]
		a, id = x.Label, x.Id
	}
	from := y.Now + r.Int64N(40)
	to, state := from+1+r.Int64N(6), 1+r.Int64N(3)
	tasks := append(taskCalls(), modifyCall(w.Need, w.Long, w.Prio))
	switch r.IntN(8) {
	case 0, 1:
		return yardCall{"YardSubmit", func(y impl.Yard) impl.YardOut { return impl.YardSubmit(y, a, w) }, func(y impl.Yard) impl.YardOut { return plainYardSubmit(y, a, w) }}
	case 2:
		return yardCall{"YardNode", func(y impl.Yard) impl.YardOut { return impl.YardNode(y, n, state) }, func(y impl.Yard) impl.YardOut { return plainYardNode(y, n, state) }}
	case 3:
		return yardCall{"YardBook", func(y impl.Yard) impl.YardOut { return impl.YardBook(y, n, span(from, to)) }, func(y impl.Yard) impl.YardOut { return plainYardBook(y, n, span(from, to)) }}
	case 4:
		if books := y.Nodes[n].Books; len(books) > 0 && r.IntN(3) > 0 {
			from = books[r.IntN(len(books))].From
		}
		return yardCall{"YardUnbook", func(y impl.Yard) impl.YardOut { return impl.YardUnbook(y, n, from) }, func(y impl.Yard) impl.YardOut { return plainYardUnbook(y, n, from) }}
	}
	c := tasks[r.IntN(len(tasks))]
	return yardCall{c.name, func(y impl.Yard) impl.YardOut { return c.call(y, a, id) }, func(y impl.Yard) impl.YardOut { return c.plain(y, a, id) }}
}

// startSome makes waiting tasks run on nodes where nothing runs, as an epoch would.
func startSome(r *rand.Rand, y impl.Yard) impl.Yard {
	y = cloneYard(y)
	for i, x := range y.Tasks {
		var free []int64
		for _, n := range plainNodesFor(y.Config, x.Label) {
			if plainRunner(y.Tasks, n) < 0 {
				free = append(free, n)
			}
		}
		if x.State == impl.TkWaits && len(free) >= int(x.Need) && r.IntN(2) == 0 {
			y.Tasks[i] = placed(x, impl.TkRuns, max(0, y.Now-r.Int64N(x.Long)), someOf(r, free, x.Need)...)
		}
	}
	return y
}

// TestYardsStayRight is promise 18: from a valid yard on, any sequence of calls leads to valid yards, each of which is the one before it but for what the document says of the call.
func TestYardsStayRight(t *testing.T) {
	r := rand.New(rand.NewPCG(18, 9))
	done, refused := map[string]int{}, map[string]int{}
	for range 150 {
		y := mixedYard(r)
		for range 60 {
			if r.IntN(10) == 0 {
				y = startSome(r, y)
				wantYardRight(t, true, y)
			}
			c := mixedYardCall(r, y)
			got := c.call(y)
			wantYard(t, c.name, got, c.plain(y))
			if got.Code != impl.OK {
				refused[c.name]++
				continue
			}
			done[c.name]++
			wantYardRight(t, true, got.Yard)
			y = got.Yard
		}
	}
	for _, name := range []string{"YardSubmit", "YardCancel", "YardHold", "YardFree", "YardFinish", "YardModify", "YardNode", "YardBook", "YardUnbook"} {
		if done[name] < 20 || refused[name] < 20 {
			t.Errorf("the calls are too much alike: done %v, refused %v", done, refused)
		}
	}
}

// TestNewYardsStayRight is promise 18 from a new yard on, with as many tasks as there may be in the end.
func TestNewYardsStayRight(t *testing.T) {
	for _, c := range []impl.Config{plainConfig(), fullConfig(), wide(8)} {
		y := impl.YardNew(c).Yard
		for range 12 {
			for _, a := range plainLabelsOf(c) {
				out := impl.YardSubmit(y, a, wishFor(1))
				wantYard(t, "YardSubmit", out, plainYardSubmit(y, a, wishFor(1)))
				if out.Code != impl.OK {
					t.Fatalf("code %d behind %d tasks", out.Code, len(y.Tasks))
				}
				y = wantTaskCall(t, impl.OK, cancelCall(), out.Yard, a, out.Id).Yard
			}
		}
		if len(y.Tasks) != 12*len(plainLabelsOf(c)) {
			t.Errorf("%d tasks of %d labels", len(y.Tasks), len(plainLabelsOf(c)))
		}
		for _, a := range plainLabelsOf(c) {
			wantYardSubmit(t, impl.ErrFull, y, a, wishFor(1))
		}
	}
}

// TestYardsAreDifferent: a call that is done changes the yard, unless it only modifies a task to what it was.
func TestYardsAreDifferent(t *testing.T) {
	r := rand.New(rand.NewPCG(18, 10))
	for range 300 {
		y := mixedYard(r)
		c := mixedYardCall(r, y)
		if out := c.call(y); out.Code == impl.OK && c.name != "YardModify" && sameYard(out.Yard, y) {
			t.Errorf("%s is done, and nothing has changed: %+v", c.name, fewOfYard(y))
		}
	}
}
