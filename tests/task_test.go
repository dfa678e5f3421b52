package tests

import (
	"fmt"
	"math"
	"math/rand/v2"
	"slices"
	"testing"

	"loop.example/g00658/impl"
)

func wantTask(t *testing.T, want bool, x impl.Task) {
	t.Helper()
	if got := impl.TaskRight(x); got != want || got != plainTaskRight(x) {
		t.Errorf("TaskRight(%+v) = %v, want %v", fewTasks([]impl.Task{x}), got, want)
	}
}

// taskFields lists the places of all numbers of a task that is not on a node.
func taskFields(t *impl.Task) []*int64 {
	return []*int64{&t.Label.Level, &t.Label.Set, &t.Id, &t.Need, &t.Long, &t.Prio, &t.Under.Level, &t.Under.Set, &t.After, &t.Born, &t.State, &t.Start}
}

// withNum sets one field of a task to a number.
func withNum(t impl.Task, field int, n int64) impl.Task {
	*taskFields(&t)[field] = n
	return t
}

// wrongTasks lists tasks that are wrong in one way each.
func wrongTasks() []impl.Task {
	wrong := []impl.Task{{}}
	for _, right := range rightTasks() {
		for _, name := range slices.Concat(wrongNames(), tooLongNames()) {
			t := right
			t.Owner = name
			wrong = append(wrong, t)
		}
		for _, a := range wrongLabels() {
			t := right
			t.Label = a
			wrong = append(wrong, t, after(right, a, 1), after(right, a, 0))
		}
		for field := range taskFields(&right) {
			for _, n := range wrongNums() {
				// These two may be the time 256.
				if n != 256 || field < 9 {
					wrong = append(wrong, withNum(right, field, n))
				}
			}
		}
	}
	return slices.Concat(wrong, wrongDependencies(), wrongPlaces())
}

// wrongDependencies lists tasks with labels that are not dominated, and tasks that cannot have come before.
func wrongDependencies() []impl.Task {
	var wrong []impl.Task
	for _, a := range allLabels() {
		t := task(a, 6)
		for _, b := range allLabels() {
			for _, id := range []int64{-1, 13, 14} {
				wrong = append(wrong, after(t, b, id))
			}
			for id := int64(1); id <= 12; id++ {
				if !plainBelow(b, a) || a == b && id >= 6 {
					wrong = append(wrong, after(t, b, id))
				}
			}
			if b != label(0, 0) {
				wrong = append(wrong, after(t, b, 0))
			}
		}
	}
	return wrong
}

// wrongPlaces lists tasks with a wrong start, wrong nodes, or any of them in a state that has none.
func wrongPlaces() []impl.Task {
	two := task(label(1, 2), 1)
	two.Need = 2
	var wrong []impl.Task
	for _, state := range taskStates {
		two.State = state
		for _, nodes := range [][]int64{{0}, {5}, {0, 1, 2}, {3, 4, 5}, {1, 1}, {0, 0}, {5, 5}, {2, 1}, {5, 0}, {-1, 0}, {-1, 5}, {0, 6}, {5, 6}, {0, 7}, {6, 7}, {math.MinInt64, 0}, {0, math.MaxInt64}, {0, 1, 2, 3, 4, 5}, {0, 1, 2, 3, 4, 5, 6}, make([]int64, impl.MaxList), make([]int64, impl.MaxList+1)} {
			wrong = append(wrong, taskAt(two, 0, nodes...), taskAt(two, 7, nodes...))
		}
		for _, start := range []int64{-1, impl.MaxTime + 1, math.MinInt64, math.MaxInt64} {
			wrong = append(wrong, taskAt(two, start, 2, 4), taskAt(two, start))
		}
		for _, start := range []int64{1, 7, impl.MaxTime} {
			wrong = append(wrong, taskAt(two, start))
		}
	}
	for _, state := range []int64{impl.TkHeld, impl.TkDone, impl.TkOver, impl.TkGone, 0, 7} {
		two.State = state
		wrong = append(wrong, taskAt(two, 0, 2, 4), taskAt(two, 7, 2, 4), taskAt(two, impl.MaxTime, 0, 1))
	}
	two.State = impl.TkRuns
	return append(wrong, taskAt(two, 0))
}

func TestTaskConstants(t *testing.T) {
	got := fmt.Sprint(impl.MaxTasks, impl.MaxIds, impl.TkWaits, impl.TkRuns, impl.TkHeld, impl.TkDone, impl.TkOver, impl.TkGone)
	if got != "96 12 1 2 3 4 5 6" {
		t.Errorf("constants %s", got)
	}
}

func TestTaskRight(t *testing.T) {
	for _, x := range rightTasks() {
		wantTask(t, true, x)
	}
	for _, x := range wrongTasks() {
		wantTask(t, false, x)
	}
}

func TestTaskRightLimits(t *testing.T) {
	low := task(label(0, 0), 1)
	for field, limits := range map[int][2]int64{0: {0, 3}, 1: {0, 7}, 2: {1, 12}, 3: {1, 6}, 4: {1, 20}, 5: {0, 9}, 6: {0, 0}, 7: {0, 0}, 8: {0, 0}, 9: {0, lastBorn}, 11: {0, 0}} {
		for _, n := range append(wrongNums(), -2, -1, limits[0]-1, limits[0], limits[0]+1, limits[1]-1, limits[1], limits[1]+1) {
			wantTask(t, limits[0] <= n && n <= limits[1], withNum(low, field, n))
		}
	}
	for n := int64(-1); n <= 8; n++ {
		wantTask(t, n >= 1 && n <= 6 && n != impl.TkRuns, withNum(low, 10, n))
	}
	for _, state := range []int64{impl.TkWaits, impl.TkRuns} {
		placed := taskAt(low, 0, 3)
		placed.State = state
		for _, n := range append(wrongNums(), -1, 0, 1, impl.MaxTime-1, impl.MaxTime, impl.MaxTime+1) {
			wantTask(t, n >= 0 && n <= impl.MaxTime, withNum(placed, 11, n))
		}
	}
}

// TestTaskRightFields sets each field of valid tasks to every number around its limits.
func TestTaskRightFields(t *testing.T) {
	nums := append(wrongNums(), lastBorn-1, lastBorn, lastBorn+1, impl.MaxTime-1, impl.MaxTime)
	for n := int64(-3); n <= 23; n++ {
		nums = append(nums, n)
	}
	for _, right := range rightTasks() {
		for _, n := range nums {
			for field := range taskFields(&right) {
				x := withNum(right, field, n)
				wantTask(t, plainTaskRight(x), x)
			}
			for _, nodes := range [][]int64{{n}, {2, n}, {0, 1, n}, {n, 3, 4, 5}} {
				x := taskAt(right, 5, nodes...)
				x.Need = int64(len(nodes))
				wantTask(t, plainTaskRight(x), x)
			}
		}
	}
}

func TestTaskRightOfOwners(t *testing.T) {
	x := task(label(1, 1), 3)
	for _, name := range rightNames() {
		x.Owner = name
		wantTask(t, true, x)
	}
	for b := range 256 {
		one := string([]byte{byte(b)})
		letter := b >= 'a' && b <= 'z'
		x.Owner = one
		wantTask(t, letter, x)
		x.Owner = "a" + one
		wantTask(t, letter || b >= '0' && b <= '9' || b == '_', x)
	}
}

// TestTaskRightOfDependencies has any two labels, and Ids on both sides of all limits.
func TestTaskRightOfDependencies(t *testing.T) {
	for _, a := range allLabels() {
		for _, id := range []int64{1, 2, 6, 12} {
			for _, b := range allLabels() {
				for n := int64(-1); n <= 14; n++ {
					right := n >= 1 && n <= 12 && plainBelow(b, a) && (a != b || n < id) || n == 0 && b == label(0, 0)
					wantTask(t, right, after(task(a, id), b, n))
				}
			}
		}
	}
	for _, a := range wrongLabels() {
		for n := int64(-1); n <= 2; n++ {
			wantTask(t, false, after(task(label(3, 7), 3), a, n))
			wantTask(t, false, after(task(a, 3), a, n))
			wantTask(t, false, after(task(a, 3), label(0, 0), n))
		}
	}
}

// TestTaskRightNodes has every state with all short lists of nodes and all increasing ones.
func TestTaskRightNodes(t *testing.T) {
	for length := range 4 {
		for _, nodes := range nodeLists(length) {
			for _, state := range taskStates {
				x := taskAt(task(label(1, 2), 1), 4, nodes...)
				x.State, x.Need = state, int64(max(length, 1))
				wantTask(t, plainTaskRight(x), x)
				x.Start = 0
				wantTask(t, plainTaskRight(x), x)
			}
		}
	}
	for _, nodes := range rising() {
		for need := int64(0); need <= 7; need++ {
			for _, state := range append(taskStates, 0, 7) {
				x := taskAt(task(label(1, 2), 1), 0, nodes...)
				x.State, x.Need = state, need
				fits := state == impl.TkRuns || state == impl.TkWaits
				none := len(nodes) == 0 && need >= 1 && need <= 6 && state >= 1 && state <= 6 && state != impl.TkRuns
				wantTask(t, none || fits && need >= 1 && need == int64(len(nodes)), x)
				x.Start = 8
				wantTask(t, fits && need >= 1 && need == int64(len(nodes)), x)
				slices.Reverse(x.Nodes)
				wantTask(t, fits && need == 1 && len(nodes) == 1, x)
			}
		}
	}
}

func TestTaskRightTakesNoNodesAndEmptyNodesAlike(t *testing.T) {
	for _, state := range taskStates {
		x := task(label(0, 0), 1)
		x.State = state
		for _, nodes := range [][]int64{nil, {}, make([]int64, 0, 2)} {
			x.Nodes = nodes
			wantTask(t, state != impl.TkRuns, x)
		}
	}
}

func TestTaskRightOfMixedTasks(t *testing.T) {
	r := rand.New(rand.NewPCG(17, 1))
	count := map[bool]int{}
	for range 3000 {
		x := mixedTask(r, allLabels()[r.IntN(32)], 1+r.Int64N(12))
		if r.IntN(2) == 0 {
			x = after(x, label(0, 0), 1+r.Int64N(12))
		}
		wantTask(t, plainTaskRight(x), x)
		x = spoilTask(r, x)
		count[plainTaskRight(x)]++
		wantTask(t, plainTaskRight(x), x)
	}
	if count[true] < 500 || count[false] < 500 {
		t.Errorf("the spoilt tasks are too much alike: %v", count)
	}
}
