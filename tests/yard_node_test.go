package tests

import (
	"math/rand/v2"
	"slices"
	"testing"

	"loop.example/g00658/impl"
)

func wantYardNode(t *testing.T, code int64, y impl.Yard, n int64, state int64) impl.YardOut {
	t.Helper()
	want := plainYardNode(y, n, state)
	if want.Code != code {
		t.Fatalf("the model gives %d for node %d and state %d in %+v, not %d", want.Code, n, state, fewOfYard(y), code)
	}
	got := impl.YardNode(y, n, state)
	wantYard(t, "YardNode", got, want)
	return got
}

func wantYardBook(t *testing.T, code int64, y impl.Yard, n int64, x impl.Span) impl.YardOut {
	t.Helper()
	want := plainYardBook(y, n, x)
	if want.Code != code {
		t.Fatalf("the model gives %d for node %d and %v in %+v, not %d", want.Code, n, x, fewOfYard(y), code)
	}
	got := impl.YardBook(y, n, x)
	wantYard(t, "YardBook", got, want)
	return got
}

func wantYardUnbook(t *testing.T, code int64, y impl.Yard, n int64, from int64) impl.YardOut {
	t.Helper()
	want := plainYardUnbook(y, n, from)
	if want.Code != code {
		t.Fatalf("the model gives %d for node %d and %d in %+v, not %d", want.Code, n, from, fewOfYard(y), code)
	}
	got := impl.YardUnbook(y, n, from)
	wantYard(t, "YardUnbook", got, want)
	return got
}

// runYard has six nodes, two of each state, and tasks that run on three of them, on two and on one; others wait for the same nodes, or have ended.
func runYard() impl.Yard {
	low, middle, high := label(0, 0), label(1, 1), label(2, 3)
	y := yardWith(sixNodes(),
		placed(task(low, 1), impl.TkRuns, 9, 0, 2, 4), placed(task(low, 2), impl.TkWaits, 12, 0, 1, 2, 3, 4, 5), taskIn(task(low, 3), impl.TkHeld), taskIn(task(low, 4), impl.TkGone),
		placed(task(middle, 1), impl.TkRuns, 8, 1, 3), task(middle, 2), placed(after(task(high, 1), low, 1), impl.TkRuns, 9, 5), placed(task(high, 2), impl.TkWaits, 10, 5))
	for n := range y.Nodes {
		y.Nodes[n] = node(impl.NdUp+int64(n/2), 12, 15, 20, 21)
	}
	return y
}

// TestYardNode has each node and each state: if the node goes down, the one task that runs there waits.
func TestYardNode(t *testing.T) {
	runner := []int{0, 4, 0, 4, 0, 6}
	for n := range int64(6) {
		for state := int64(1); state <= 3; state++ {
			if state == 1+n/2 {
				wantYardNode(t, impl.ErrState, runYard(), n, state)
				continue
			}
			want := runYard()
			want.Nodes[n].State = state
			if state == impl.NdDown {
				x := &want.Tasks[runner[n]]
				x.State, x.Start, x.Nodes = impl.TkWaits, 0, nil
			}
			got := wantYardNode(t, impl.OK, runYard(), n, state)
			wantYard(t, "YardNode", got, impl.YardOut{Yard: want})
		}
	}
}

// TestYardNodeAgain takes a node down from each state, and the tasks back to it.
func TestYardNodeAgain(t *testing.T) {
	y := runYard()
	for _, n := range []int64{0, 3} {
		y = wantYardNode(t, impl.OK, y, n, impl.NdDown).Yard
		wantYardNode(t, impl.ErrState, y, n, impl.NdDown)
	}
	if y.Tasks[0].State != impl.TkWaits || y.Tasks[4].State != impl.TkWaits || y.Tasks[6].State != impl.TkRuns {
		t.Errorf("two nodes are down: %+v", y.Tasks)
	}
	// A task may run on a node that is down already: it does not change when the node comes up or drains.
	for _, state := range []int64{impl.NdUp, impl.NdDrains} {
		out := wantYardNode(t, impl.OK, y, 5, state)
		if !sameTasks(out.Yard.Tasks, y.Tasks) {
			t.Errorf("the node comes back, and tasks change: %+v", out.Yard.Tasks)
		}
	}
}

// TestYardNodeWithoutTasks takes down nodes on which nothing runs.
func TestYardNodeWithoutTasks(t *testing.T) {
	for n := 1; n <= 6; n++ {
		y := yardWith(impl.Config{Nodes: alike(n, label(0, 0)), Half: 2}, taskIn(task(label(0, 0), 1), impl.TkHeld))
		for i := range int64(n) {
			y = wantYardNode(t, impl.OK, y, i, impl.NdDown).Yard
		}
		for i := range int64(n) {
			y = wantYardNode(t, impl.OK, y, i, impl.NdDrains).Yard
		}
	}
}

func TestYardNodeOfWrongArguments(t *testing.T) {
	for _, y := range []impl.Yard{runYard(), busyYard(), emptyYard(wide(1))} {
		last := int64(len(y.Nodes)) - 1
		for _, n := range append(wrongNums(), -2, -1, last+1, last+2) {
			for state := int64(1); state <= 3; state++ {
				wantYardNode(t, impl.ErrNone, y, n, state)
			}
			for _, state := range append(wrongNums(), -1, 0, 4, 5) {
				wantYardNode(t, impl.ErrForm, y, n, state)
				wantYardNode(t, impl.ErrForm, y, 0, state)
			}
		}
	}
}

// TestYardBook has reservations among others, whatever runs there.
func TestYardBook(t *testing.T) {
	for n := range int64(6) {
		for _, c := range []struct {
			x    impl.Span
			want []impl.Span
		}{
			{span(10, 12), spans(10, 12, 12, 15, 20, 21)}, {span(16, 18), spans(12, 15, 16, 18, 20, 21)}, {span(15, 20), spans(12, 15, 15, 20, 20, 21)},
			{span(21, 49), spans(12, 15, 20, 21, 21, 49)}, {span(48, 49), spans(12, 15, 20, 21, 48, 49)},
		} {
			want := runYard()
			want.Nodes[n].Books = c.want
			got := wantYardBook(t, impl.OK, runYard(), n, c.x)
			wantYard(t, "YardBook", got, impl.YardOut{Yard: want})
		}
	}
}

// TestYardBookErrors has each error of BookPut, with the time of the yard.
func TestYardBookErrors(t *testing.T) {
	y := runYard()
	for n := range int64(6) {
		for _, x := range wrongSpans() {
			wantYardBook(t, impl.ErrForm, y, n, x)
			wantYardBook(t, impl.ErrForm, y, n+6, x)
		}
		for _, x := range spans(9, 10, 8, 11, 0, 1, 9, 12, 9, 49, 12, 50, 49, 50, 30, 51, 0, impl.MaxTime) {
			wantYardBook(t, impl.ErrRange, y, n, x)
			wantYardBook(t, impl.ErrNone, y, n+6, x)
			wantYardBook(t, impl.ErrNone, y, n-6, x)
		}
		for _, x := range spans(12, 15, 11, 13, 14, 16, 10, 49, 20, 21, 19, 22) {
			wantYardBook(t, impl.ErrThere, y, n, x)
			wantYardBook(t, impl.ErrNone, y, n+6, x)
		}
		full := withYard(y, func(y *impl.Yard) { y.Nodes[n].Books = spans(5, 6, 12, 15, 20, 21, 30, 40) })
		wantYardBook(t, impl.ErrFull, full, n, span(10, 12))
		wantYardBook(t, impl.ErrFull, full, n, span(41, 49))
		wantYardBook(t, impl.ErrThere, full, n, span(39, 49))
		wantYardBook(t, impl.ErrRange, full, n, span(41, 50))
		wantYardBook(t, impl.OK, full, (n+1)%6, span(10, 12))
	}
	for _, n := range append(wrongNums(), -1, 6) {
		wantYardBook(t, impl.ErrNone, y, n, span(10, 11))
	}
}

// TestYardBookAtAnyTime has spans on both sides of both ends of what may be reserved.
func TestYardBookAtAnyTime(t *testing.T) {
	for _, now := range []int64{0, 1, 40, 5000, lastBorn - 1, lastBorn} {
		y := withYard(emptyYard(plainConfig()), func(y *impl.Yard) { y.Now = now })
		for _, x := range spans(now+1, now+2, now+1, now+40, now+39, now+40) {
			wantYardBook(t, impl.OK, y, 2, x)
		}
		for _, x := range spans(now, now+1, now, now+40, now+1, now+41, now+40, now+41) {
			wantYardBook(t, impl.ErrRange, y, 2, x)
		}
	}
}

func TestYardUnbook(t *testing.T) {
	y := runYard()
	for n := range int64(6) {
		for _, from := range []int64{12, 20} {
			want := runYard()
			want.Nodes[n].Books = spans(20, 21)
			if from == 20 {
				want.Nodes[n].Books = spans(12, 15)
			}
			got := wantYardUnbook(t, impl.OK, y, n, from)
			wantYard(t, "YardUnbook", got, impl.YardOut{Yard: want})
			wantYardUnbook(t, impl.ErrNone, got.Yard, n, from)
			wantYardUnbook(t, impl.ErrNone, y, n+6, from)
			wantYardUnbook(t, impl.ErrNone, y, n-6, from)
		}
		for _, from := range append(wrongNums(), -1, 0, 9, 11, 13, 14, 15, 19, 21) {
			wantYardUnbook(t, impl.ErrNone, y, n, from)
		}
	}
	for _, n := range append(wrongNums(), -1, 6) {
		wantYardUnbook(t, impl.ErrNone, y, n, 12)
	}
	// What was reserved before now can be removed, too.
	y.Nodes[0].Books = spans(3, 5, 9, 11)
	for _, from := range []int64{3, 9} {
		wantYardUnbook(t, impl.OK, y, 0, from)
	}
}

// TestYardBookThenUnbook has the yard as it was before, on each node.
func TestYardBookThenUnbook(t *testing.T) {
	for _, y := range []impl.Yard{runYard(), busyYard(), emptyYard(wide(8))} {
		for n := range int64(len(y.Nodes)) {
			from := y.Now + 32
			booked := wantYardBook(t, impl.OK, y, n, span(from, from+3)).Yard
			wantYardBook(t, impl.ErrThere, booked, n, span(from+2, from+4))
			wantYard(t, "YardUnbook", wantYardUnbook(t, impl.OK, booked, n, from), impl.YardOut{Yard: y})
		}
	}
}

// TestYardNodesOfWrongYards also has what would be an error of its own.
func TestYardNodesOfWrongYards(t *testing.T) {
	for _, y := range wrongYards() {
		for _, n := range []int64{-1, 0, 2, 7} {
			wantYardCode(t, "YardNode", impl.ErrForm, impl.YardNode(y, n, impl.NdDown))
			wantYardCode(t, "YardNode", impl.ErrForm, impl.YardNode(y, n, impl.NdUp))
			wantYardCode(t, "YardBook", impl.ErrForm, impl.YardBook(y, n, span(15, 16)))
			wantYardCode(t, "YardBook", impl.ErrForm, impl.YardBook(y, n, span(5, 6)))
			wantYardCode(t, "YardUnbook", impl.ErrForm, impl.YardUnbook(y, n, 12))
			wantYardCode(t, "YardUnbook", impl.ErrForm, impl.YardUnbook(y, n, 9))
		}
	}
}

func TestYardNodesOfMixedYards(t *testing.T) {
	r := rand.New(rand.NewPCG(18, 5))
	count := map[int64]int{}
	stopped := 0
	for range 500 {
		y := mixedYard(r)
		if r.IntN(12) == 0 {
			spoilYard(r, &y)
		}
		for range 3 {
			n, state := r.Int64N(8)-1, r.Int64N(5)
			code := plainYardNode(y, n, state).Code
			count[code]++
			out := wantYardNode(t, code, y, n, state)
			if code == impl.OK && state == impl.NdDown && plainRunner(y.Tasks, n) >= 0 {
				stopped++
				if !slices.ContainsFunc(out.Yard.Tasks, func(x impl.Task) bool { return x.State == impl.TkWaits }) {
					t.Errorf("nothing waits: %+v", out.Yard.Tasks)
				}
			}
			from := y.Now + r.Int64N(46) - 2
			x := span(from, from+1+r.Int64N(5))
			code = plainYardBook(y, n, x).Code
			count[code]++
			wantYardBook(t, code, y, n, x)
			code = plainYardUnbook(y, n, from).Code
			count[code]++
			wantYardUnbook(t, code, y, n, from)
		}
	}
	for _, code := range []int64{impl.OK, impl.ErrForm, impl.ErrNone, impl.ErrRange, impl.ErrThere, impl.ErrFull, impl.ErrState} {
		if count[code] < 50 || stopped < 50 {
			t.Errorf("the codes are too much alike: %v, %d tasks stopped", count, stopped)
		}
	}
}
