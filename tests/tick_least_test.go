package tests

import (
	"math"
	"math/rand/v2"
	"slices"
	"testing"

	"loop.example/g00658/impl"
)

// wantLeast compares Least with the document and with what is expected.
func wantLeast(t *testing.T, want int64, y impl.Yard, a impl.Label, need int64, long int64) {
	t.Helper()
	if model := plainLeast(y, a, need, long); model != want {
		t.Fatalf("the model gives %d for %+v, need %d, long %d in %+v, not %d", model, a, need, long, fewOfYard(y), want)
	}
	if got := impl.Least(y, a, need, long); got != want {
		t.Errorf("Least(%+v, %+v, %d, %d) = %d, want %d", fewOfYard(y), a, need, long, got, want)
	}
}

// exampleYard is that of the document's example: a task of 1: has started, and then one of 0: has been submitted and has started on one of its nodes.
func exampleYard(t *testing.T) impl.Yard {
	t.Helper()
	low, high := label(0, 0), label(1, 0)
	y := impl.YardNew(impl.Config{Nodes: [][]impl.Label{{low, high}, {low, high}, {low}}, Half: 4}).Yard
	w := impl.Wish{Owner: "ann", Need: 2, Long: 4, Count: 1}
	y = wantTick(t, impl.OK, wantYardSubmit(t, impl.OK, y, high, w).Yard).Yard
	w = impl.Wish{Owner: "bob", Need: 1, Long: 2, Count: 1}
	return wantTick(t, impl.OK, wantYardSubmit(t, impl.OK, y, low, w).Yard).Yard
}

func TestLeastOfTheExample(t *testing.T) {
	y, low, high := exampleYard(t), label(0, 0), label(1, 0)
	wantLeast(t, 2, y, low, 1, 2)
	wantLeast(t, 10, y, high, 2, 4)
	wantLeast(t, 2, y, low, 2, 20)
	wantLeast(t, 5, y, low, 3, 1)
	wantLeast(t, 2, y, high, 1, 2)
	wantLeast(t, 10, y, high, 1, 3)
	wantLeast(t, -1, y, high, 3, 1)
}

// TestLeastLimits has each need and each length within the limits, and just beyond them.
func TestLeastLimits(t *testing.T) {
	low := label(0, 0)
	y := yardWith(openTo(6, low))
	nums := wrongNums()
	for n := int64(-3); n <= 23; n++ {
		nums = append(nums, n)
	}
	for _, n := range nums {
		want := func(most int64) int64 {
			if n >= 1 && n <= most {
				return 9
			}
			return -1
		}
		wantLeast(t, want(6), y, low, n, 1)
		wantLeast(t, want(6), y, low, n, 20)
		wantLeast(t, want(20), y, low, 1, n)
		wantLeast(t, want(20), y, low, 6, n)
		wantLeast(t, -1, y, low, n, 21)
		wantLeast(t, -1, y, low, 0, n)
		wantLeast(t, -1, y, low, 7, n)
	}
	for _, n := range []int64{math.MinInt64, math.MaxInt64, math.MinInt64 + 1, math.MaxInt64 - 1} {
		wantLeast(t, -1, y, low, n, n)
		wantLeast(t, -1, y, low, 1, n)
		wantLeast(t, -1, y, low, n, 1)
	}
}

// TestLeastOfLabels has all labels, those that the configuration lacks among them, and such as are invalid.
func TestLeastOfLabels(t *testing.T) {
	for _, y := range []impl.Yard{emptyYard(plainConfig()), emptyYard(fullConfig()), busyYard(), stateYard()} {
		for _, a := range append(allLabels(), wrongLabels()...) {
			nodes := plainNodesFor(y.Config, a)
			for need := int64(1); need <= 6; need++ {
				want := int64(-1)
				if int(need) <= len(nodes) {
					want = plainLeast(y, a, need, 3)
				}
				wantLeast(t, want, y, a, need, 3)
			}
			if len(nodes) == 0 {
				wantLeast(t, -1, y, a, 1, 1)
			}
		}
	}
	// A label between those of the configuration, below all, or above all of them is none of its labels.
	y := yardWith(openTo(2, label(1, 1), label(2, 3)))
	for _, a := range []impl.Label{label(0, 0), label(1, 0), label(1, 2), label(1, 3), label(2, 1), label(3, 7)} {
		wantLeast(t, -1, y, a, 1, 1)
	}
	wantLeast(t, 9, y, label(1, 1), 2, 1)
	wantLeast(t, 9, y, label(2, 3), 2, 1)
}

// TestLeastOfWrongYards has what would be right beside what is not.
func TestLeastOfWrongYards(t *testing.T) {
	for _, y := range wrongYards() {
		for _, a := range []impl.Label{label(0, 0), label(0, 4), label(4, 0)} {
			if got := impl.Least(y, a, 1, 1); got != -1 {
				t.Errorf("Least of an invalid yard, %+v, is %d", fewOfYard(y), got)
			}
			if got := impl.Least(y, a, 7, 0); got != -1 {
				t.Errorf("Least of an invalid yard, %+v, is %d", fewOfYard(y), got)
			}
		}
	}
}

// TestLeastIsLast has one more task behind all others of its label, which stand before it, whatever they still wait for.
func TestLeastIsLast(t *testing.T) {
	low, high := label(0, 0), label(1, 0)
	y := yardWith(openTo(2, low, high), onSince(low, 1, 4, 9, 0), dueAt(low, 2, 2, 30, 0, 1), asking(low, 3, 1, 3), onSince(high, 1, 9, 9, 1), asking(high, 2, 2, 3))
	wantPlaces(t, y, going(low, 1, 9, 14, 0), starting(low, 2, 14, 17, 0, 1), starting(low, 3, 9, 13, 1), starting(high, 1, 17, 27, 0), starting(high, 2, 27, 31, 0, 1))
	wantLeast(t, 17, y, low, 1, 1)
	wantLeast(t, 17, y, low, 1, 20)
	wantLeast(t, 17, y, low, 2, 1)
	wantLeast(t, 17, y, high, 1, 1)
	wantLeast(t, 17, y, high, 1, 9)
	wantLeast(t, 31, y, high, 1, 10)
	wantLeast(t, 31, y, high, 2, 1)
	// A task that is not ready, held or over is no obstacle, though it has a reserved place.
	y = yardWith(openTo(1, low), taskIn(task(low, 1), impl.TkHeld), after(dueAt(low, 2, 9, 10, 0), low, 1), taskIn(task(low, 3), impl.TkOver))
	wantLeast(t, 9, y, low, 1, 20)
	y.Tasks[0].State = impl.TkDone
	wantLeast(t, 19, y, low, 1, 20)
}

// TestLeastOfClosedNodes: one more task is to start, so that it has to leave out what a running one may use.
func TestLeastOfClosedNodes(t *testing.T) {
	low := label(0, 0)
	y := yardWith(openTo(3, low), onSince(low, 1, 4, 9, 0))
	y.Nodes[0], y.Nodes[1], y.Nodes[2] = node(impl.NdDrains), node(impl.NdUp, 11, 15), node(impl.NdDown)
	wantLeast(t, 9, y, low, 1, 1)
	wantLeast(t, 15, y, low, 1, 2)
	wantLeast(t, -1, y, low, 2, 1)
	y.Nodes[0].State = impl.NdUp
	wantLeast(t, 14, y, low, 1, 2)
	wantLeast(t, 15, y, low, 2, 1)
	y.Nodes[1].State = impl.NdDown
	wantLeast(t, -1, y, low, 2, 1)
	wantLeast(t, 14, y, low, 1, 1)
}

// TestLeastOfTheHorizon has a least start at the last time that is looked at, and none.
func TestLeastOfTheHorizon(t *testing.T) {
	low, high := label(0, 0), label(1, 0)
	for _, now := range []int64{0, 9, 1000, lastBorn} {
		for _, long := range []int64{17, 18, 19, 20} {
			y := withYard(yardWith(openTo(1, low, high), asking(low, 1, 1, 20), asking(low, 2, 1, long)), func(y *impl.Yard) { y.Now = now })
			want := now + 22 + long
			if long > 18 {
				want = -1
			}
			for _, a := range []impl.Label{low, high} {
				wantLeast(t, want, y, a, 1, 1)
				wantLeast(t, want, y, a, 1, 20)
			}
		}
		y := withYard(yardWith(openTo(2, low)), func(y *impl.Yard) { y.Now = now })
		wantLeast(t, now, y, low, 2, 20)
		y.Nodes[0] = node(impl.NdUp, now, now+40)
		wantLeast(t, now+40, y, low, 2, 20)
		y.Nodes[0] = node(impl.NdUp, now+20, now+41)
		wantLeast(t, -1, y, low, 2, 20)
		wantLeast(t, now, y, low, 2, 19)
		wantLeast(t, now, y, low, 1, 20)
	}
}

func TestLeastOfMixedYards(t *testing.T) {
	r := rand.New(rand.NewPCG(15, 4))
	count := map[string]int{}
	for range 1000 {
		y := tickYard(r)
		if r.IntN(20) == 0 {
			spoilYard(r, &y)
		}
		labels := append(plainLabelsOf(y.Config), allLabels()[r.IntN(32)])
		for range 4 {
			a, need, long := labels[r.IntN(len(labels))], 1+r.Int64N(2), 1+r.Int64N(20)
			want := plainLeast(y, a, need, long)
			wantLeast(t, want, y, a, need, long)
			switch want {
			case -1:
				count["none"]++
			case y.Now:
				count["now"]++
			default:
				count["later"]++
			}
		}
	}
	if slices.Min([]int{count["none"], count["now"], count["later"]}) < 100 {
		t.Errorf("the least starts are too much alike: %v", count)
	}
}
