package tests

import (
	"math"
	"math/rand/v2"
	"slices"
	"testing"

	"loop.example/g00658/impl"
)

// fewOfYard is what can be printed of a yard.
func fewOfYard(y impl.Yard) impl.Yard {
	y.Config.Nodes = y.Config.Nodes[:min(len(y.Config.Nodes), 7)]
	y.Nodes, y.Tasks, y.Uses = few(y.Nodes), fewTasks(y.Tasks), fewUses(y.Uses)
	return y
}

func wantWish(t *testing.T, want bool, w impl.Wish) {
	t.Helper()
	if got := impl.WishRight(w); got != want || got != plainWishRight(w) {
		t.Errorf("WishRight(%+v, owner of %d bytes) = %v, want %v", w, len(w.Owner), got, want)
	}
}

func wantYardRight(t *testing.T, want bool, y impl.Yard) {
	t.Helper()
	if got := impl.YardRight(y); got != want || got != plainYardRight(y) {
		t.Fatalf("YardRight(%d nodes, %d tasks, %d uses, %+v) = %v, want %v", len(y.Nodes), len(y.Tasks), len(y.Uses), fewOfYard(y), got, want)
	}
}

// wantYard compares a result. Promise 18: what is not an error is a valid yard; and what is one has nothing but its code.
func wantYard(t *testing.T, what string, got impl.YardOut, want impl.YardOut) {
	t.Helper()
	if got.Code != want.Code || got.Id != want.Id || !sameYard(got.Yard, want.Yard) {
		t.Fatalf("%s: got code %d, id %d, %+v, want code %d, id %d, %+v", what, got.Code, got.Id, fewOfYard(got.Yard), want.Code, want.Id, fewOfYard(want.Yard))
	}
	if right := impl.YardRight(got.Yard); right != (got.Code == impl.OK) {
		t.Fatalf("%s: code %d, but YardRight of the yard is %v: %+v", what, got.Code, right, fewOfYard(got.Yard))
	}
}

// wantYardCode expects a result that has nothing but an error.
func wantYardCode(t *testing.T, what string, code int64, got impl.YardOut) {
	t.Helper()
	wantYard(t, what, got, impl.YardOut{Code: code})
}

// rightWishes have least, middle and greatest values.
func rightWishes() []impl.Wish {
	return []impl.Wish{
		{Owner: "a", Need: 1, Long: 1, Count: 1},
		{Owner: "b_2", Need: 3, Long: 11, Prio: 5, Under: label(1, 4), After: 7, Count: 2},
		{Owner: longName, Need: 6, Long: 20, Prio: 9, Under: label(3, 7), After: 12, Count: 4},
		{Owner: "z9", Need: 2, Long: 4, Prio: 1, Under: label(0, 0), After: 1, Count: 3},
	}
}

// wishFields lists the places of all numbers of a wish.
func wishFields(w *impl.Wish) []*int64 {
	return []*int64{&w.Need, &w.Long, &w.Prio, &w.Count, &w.After, &w.Under.Level, &w.Under.Set}
}

func withWishNum(w impl.Wish, field int, n int64) impl.Wish {
	*wishFields(&w)[field] = n
	return w
}

// wrongWishes lists wishes that are wrong in one way each.
func wrongWishes() []impl.Wish {
	wrong := []impl.Wish{{}}
	for _, right := range rightWishes() {
		for _, name := range slices.Concat(wrongNames(), tooLongNames()) {
			w := right
			w.Owner = name
			wrong = append(wrong, w)
		}
		for field, limits := range [][2]int64{{1, 6}, {1, 20}, {0, 9}, {1, 4}, {0, 12}} {
			for _, n := range append(wrongNums(), limits[0]-1, limits[1]+1) {
				wrong = append(wrong, withWishNum(right, field, n))
			}
		}
		for _, a := range wrongLabels() {
			wrong = append(wrong, wishAfter(right, a, 0), wishAfter(right, a, 1), wishAfter(right, a, 12))
		}
		for _, a := range allLabels()[1:] {
			wrong = append(wrong, wishAfter(right, a, 0))
		}
	}
	return wrong
}

func TestWishRight(t *testing.T) {
	if impl.MaxCount != 4 {
		t.Errorf("MaxCount is %d", impl.MaxCount)
	}
	for _, w := range rightWishes() {
		wantWish(t, true, w)
	}
	for _, w := range wrongWishes() {
		wantWish(t, false, w)
	}
}

func TestWishRightLimits(t *testing.T) {
	low := wishAfter(wishFor(1), label(2, 2), 3)
	for field, limits := range [][2]int64{{1, 6}, {1, 20}, {0, 9}, {1, 4}, {1, 12}, {0, 3}, {0, 7}} {
		nums := wrongNums()
		for n := int64(-3); n <= 23; n++ {
			nums = append(nums, n)
		}
		for _, n := range nums {
			wantWish(t, limits[0] <= n && n <= limits[1], withWishNum(low, field, n))
		}
	}
}

func TestWishRightOfOwners(t *testing.T) {
	w := wishFor(1)
	for _, name := range rightNames() {
		w.Owner = name
		wantWish(t, true, w)
	}
	for b := range 256 {
		one := string([]byte{byte(b)})
		letter := b >= 'a' && b <= 'z'
		w.Owner = one
		wantWish(t, letter, w)
		w.Owner = "a" + one
		wantWish(t, letter || b >= '0' && b <= '9' || b == '_', w)
	}
}

// TestWishRightOfDependencies has any label, and Ids on both sides of all limits.
func TestWishRightOfDependencies(t *testing.T) {
	for id := int64(-1); id <= 14; id++ {
		for _, a := range allLabels() {
			wantWish(t, id >= 1 && id <= 12 || id == 0 && a == label(0, 0), wishAfter(wishFor(2), a, id))
		}
		for _, a := range wrongLabels() {
			wantWish(t, false, wishAfter(wishFor(2), a, id))
		}
	}
}

// wrongYards lists yards that are wrong in one part each.
func wrongYards() []impl.Yard {
	right := busyYard()
	wrong := []impl.Yard{{}, {Now: 5}, {Nodes: sameNodes(3)}, {Config: plainConfig()}}
	for _, c := range wrongConfigs() {
		wrong = append(wrong, withYard(right, func(y *impl.Yard) { y.Config = c }))
		if len(c.Nodes) >= 1 && len(c.Nodes) <= 6 {
			wrong = append(wrong, emptyYard(c))
		}
	}
	for _, l := range slices.Concat(wrongNodes(), tooManyNodes(), [][]impl.Node{sameNodes(1), sameNodes(2), sameNodes(4), sameNodes(6)}) {
		wrong = append(wrong, withYard(right, func(y *impl.Yard) { y.Nodes = l }))
	}
	for _, l := range slices.Concat(wrongTaskLists(), tooManyTasks()) {
		wrong = append(wrong, withYard(right, func(y *impl.Yard) { y.Tasks = l }))
	}
	for _, l := range slices.Concat(wrongUses(), tooManyUses()) {
		wrong = append(wrong, withYard(right, func(y *impl.Yard) { y.Uses = l }))
	}
	for _, now := range append(wrongNums(), -1, impl.MaxTime-99, impl.MaxTime-1, impl.MaxTime) {
		if now != 256 {
			wrong = append(wrong, withYard(emptyYard(plainConfig()), func(y *impl.Yard) { y.Now = now }), withYard(right, func(y *impl.Yard) { y.Now = now }))
		}
	}
	return append(wrong, wrongYardTasks()...)
}

// wrongYardTasks lists yards with a valid configuration and valid nodes, tasks and uses, which do not fit each other.
func wrongYardTasks() []impl.Yard {
	low, middle, side, high := label(0, 0), label(1, 0), label(1, 1), label(2, 1)
	first := task(low, 1)
	var wrong []impl.Yard
	for _, tasks := range [][]impl.Task{
		{task(label(0, 1), 1)}, {task(label(3, 7), 1)}, {taskIn(task(label(2, 0), 1), impl.TkGone)},
		{placed(first, impl.TkHeld, 0)}, {placed(first, impl.TkRuns, 10, 0)}, {placed(first, impl.TkRuns, 7, 0)}, {placed(first, impl.TkRuns, impl.MaxTime, 0)},
		{placed(first, impl.TkRuns, 9, 2)}, {placed(first, impl.TkRuns, 9, 3)}, {placed(first, impl.TkRuns, 9, 5)}, {placed(first, impl.TkRuns, 9, 0, 2)},
		{placed(first, impl.TkWaits, 9, 0)}, {placed(first, impl.TkWaits, 50, 0)}, {placed(first, impl.TkWaits, 0, 0)}, {placed(first, impl.TkWaits, 8, 0)},
		{placed(first, impl.TkWaits, 10, 2)}, {placed(first, impl.TkWaits, 10, 3)}, {placed(first, impl.TkWaits, 10, 1, 2)}, {placed(first, impl.TkWaits, impl.MaxTime, 0)},
		{placed(first, impl.TkRuns, 9, 0), placed(task(low, 2), impl.TkRuns, 9, 0)},
		{placed(first, impl.TkRuns, 9, 0, 1), task(low, 2), placed(task(side, 1), impl.TkRuns, 8, 1)},
		{placed(first, impl.TkRuns, 9, 0), placed(task(middle, 1), impl.TkRuns, 9, 2), placed(task(high, 1), impl.TkRuns, 8, 0)},
		tasksOf(low, 1, 2, 3, 4, 5, 6, 7, 8, 9, 10), tasksOf(middle, 1, 2, 3, 4, 5, 6, 7), tasksOf(side, 1, 2), tasksOf(high, 1, 2, 3, 4, 5),
		slices.Concat(tasksOf(low, 1), tasksOf(side, 1, 2), tasksOf(high, 1)),
	} {
		y := emptyYard(plainConfig())
		y.Tasks, y.Now = tasks, 9
		wrong = append(wrong, y)
	}
	for _, state := range taskStates {
		tooWide, unborn, wide := taskIn(first, state), taskIn(first, state), taskIn(task(side, 1), state)
		tooWide.Need, unborn.Born, wide.Need = 3, 10, 2
		if state == impl.TkRuns {
			tooWide, unborn, wide = placed(first, state, 9, 0, 1, 2), placed(unborn, state, 9, 0), placed(wide, state, 9, 0, 1)
		}
		for _, x := range []impl.Task{tooWide, unborn, wide} {
			wrong = append(wrong, withYard(emptyYard(plainConfig()), func(y *impl.Yard) { y.Tasks, y.Now = []impl.Task{x}, 9 }))
		}
	}
	for _, a := range []impl.Label{label(0, 1), label(2, 0), label(3, 7)} {
		wrong = append(wrong, withYard(emptyYard(plainConfig()), func(y *impl.Yard) { y.Uses = []impl.Use{use(a, "ann", 1)} }))
	}
	return wrong
}

func TestYardRight(t *testing.T) {
	for _, y := range []impl.Yard{busyYard(), fullYard(), emptyYard(plainConfig()), emptyYard(fullConfig()), emptyYard(wide(8))} {
		wantYardRight(t, true, y)
	}
	for _, y := range wrongYards() {
		wantYardRight(t, false, y)
	}
	for now, want := range map[int64]bool{math.MinInt64: false, -1: false, 0: true, 1: true, impl.MaxTime - 101: true, impl.MaxTime - 100: true, impl.MaxTime - 99: false, impl.MaxTime: false, math.MaxInt64: false} {
		wantYardRight(t, want, withYard(emptyYard(plainConfig()), func(y *impl.Yard) { y.Now = now }))
	}
	for n := range 8 {
		wantYardRight(t, n == 3, withYard(emptyYard(plainConfig()), func(y *impl.Yard) { y.Nodes = sameNodes(n) }))
	}
}

func TestYardRightTakesNilAndEmptyAlike(t *testing.T) {
	y := emptyYard(impl.Config{Nodes: [][]impl.Label{{label(0, 0)}}, Half: 1})
	y.Tasks = tasksOf(label(0, 0), 1, 2)
	wantYardRight(t, true, y)
	y.Config.Pairs, y.Config.Quotas, y.Uses, y.Nodes[0].Books = []impl.Pair{}, []impl.Quota{}, []impl.Use{}, []impl.Span{}
	y.Tasks[0].Nodes, y.Tasks[1].Nodes = []int64{}, make([]int64, 0, 3)
	wantYardRight(t, true, y)
	y.Tasks = []impl.Task{}
	wantYardRight(t, true, y)
	y.Nodes = []impl.Node{}
	wantYardRight(t, false, y)
}

// TestYardRightOfRunningTasks has the current time on both sides of both ends of a task's span.
func TestYardRightOfRunningTasks(t *testing.T) {
	for _, start := range []int64{0, 1, 7, 500} {
		for long := int64(1); long <= 20; long++ {
			x := placed(task(label(0, 0), 1), impl.TkRuns, start, 1)
			x.Long = long
			for now := max(0, start-2); now <= start+long+3; now++ {
				y := withYard(emptyYard(plainConfig()), func(y *impl.Yard) { y.Now, y.Tasks = now, []impl.Task{x} })
				wantYardRight(t, start <= now && now <= start+long, y)
			}
		}
	}
	last := placed(task(label(0, 0), 1), impl.TkRuns, lastBorn, 1)
	wantYardRight(t, true, withYard(emptyYard(plainConfig()), func(y *impl.Yard) { y.Now, y.Tasks = lastBorn, []impl.Task{last} }))
}

// TestYardRightOfReservedPlaces has starts on both sides of both ends of what may be reserved.
func TestYardRightOfReservedPlaces(t *testing.T) {
	for _, now := range []int64{0, 1, 9, 1000, lastBorn - 1, lastBorn} {
		for start := max(0, now-3); start <= now+45; start++ {
			x := placed(task(label(0, 0), 1), impl.TkWaits, start, 0, 1)
			y := withYard(emptyYard(plainConfig()), func(y *impl.Yard) { y.Now, y.Tasks = now, []impl.Task{x} })
			wantYardRight(t, start > now && start <= now+40, y)
		}
	}
}

// TestYardRightOfNodes has tasks of each label on any nodes, and none on nodes that are not enough.
func TestYardRightOfNodes(t *testing.T) {
	y := emptyYard(plainConfig())
	y.Now = 9
	for _, a := range append(plainLabelsOf(y.Config), label(0, 1), label(3, 7)) {
		cleared := plainNodesFor(y.Config, a)
		for _, nodes := range rising()[1:] {
			right := !slices.ContainsFunc(nodes, func(n int64) bool { return !slices.Contains(cleared, n) })
			y.Tasks = []impl.Task{placed(task(a, 1), impl.TkRuns, 9, nodes...)}
			wantYardRight(t, right, y)
			y.Tasks = []impl.Task{placed(task(a, 1), impl.TkWaits, 10, nodes...)}
			wantYardRight(t, right, y)
		}
		for _, state := range taskStates {
			for need := int64(1); need <= 6; need++ {
				x := task(a, 1)
				x.Need, x.State = need, state
				y.Tasks = []impl.Task{x}
				wantYardRight(t, state != impl.TkRuns && need <= int64(len(cleared)), y)
			}
		}
	}
}

// TestYardRightOfSharedNodes has two tasks of which one node may be the same, each running or waiting.
func TestYardRightOfSharedNodes(t *testing.T) {
	low, middle := label(0, 0), label(1, 0)
	y := emptyYard(impl.Config{Nodes: alike(3, low, middle), Half: 1})
	y.Now = 9
	starts := map[int64]int64{impl.TkRuns: 9, impl.TkWaits: 10}
	for first, from := range starts {
		for second, to := range starts {
			for _, one := range rising()[1:8] {
				for _, other := range rising()[1:8] {
					apart := !slices.ContainsFunc(one, func(n int64) bool { return slices.Contains(other, n) })
					right := apart || first != impl.TkRuns || second != impl.TkRuns
					for _, x := range []impl.Task{placed(task(low, 2), second, to, other...), placed(task(middle, 1), second, to, other...)} {
						y.Tasks = []impl.Task{placed(task(low, 1), first, from, one...), x}
						wantYardRight(t, right, y)
					}
				}
			}
		}
	}
}

// TestYardRightOfQuotas has each number of live tasks, which wait or are held, beside others.
func TestYardRightOfQuotas(t *testing.T) {
	low, high := label(0, 0), label(1, 0)
	for most := int64(0); most <= 9; most++ {
		y := emptyYard(impl.Config{Nodes: alike(2, low, high), Half: 1, Quotas: []impl.Quota{quota(low, 1)}})
		allowed := int64(6)
		if most > 0 {
			y.Config.Quotas = append(y.Config.Quotas, quota(high, most))
			allowed = most
		}
		for over := range 13 {
			for live := 0; over+live <= 12; live++ {
				y.Tasks = []impl.Task{task(low, 1)}
				for i := range over + live {
					state := taskStates[3+i%3]
					if i >= over {
						state = []int64{impl.TkWaits, impl.TkHeld}[i%2]
					}
					y.Tasks = append(y.Tasks, taskIn(task(high, int64(i)+1), state))
				}
				wantYardRight(t, int64(live) <= allowed, y)
			}
		}
	}
	// A running task is live, too.
	y := withYard(emptyYard(plainConfig()), func(y *impl.Yard) { y.Tasks = []impl.Task{placed(task(label(1, 1), 1), impl.TkRuns, 0, 1)} })
	wantYardRight(t, true, y)
	y.Tasks = append(y.Tasks, task(label(1, 1), 2))
	wantYardRight(t, false, y)
}

func TestYardRightOfUses(t *testing.T) {
	y := emptyYard(plainConfig())
	for _, a := range allLabels() {
		y.Uses = []impl.Use{use(a, "ann", 1)}
		wantYardRight(t, slices.Contains(plainLabelsOf(y.Config), a), y)
	}
}

func TestYardRightOfMixedYards(t *testing.T) {
	r := rand.New(rand.NewPCG(18, 1))
	count := map[bool]int{}
	for range 1500 {
		y := mixedYard(r)
		wantYardRight(t, true, y)
		for range 3 {
			changed := cloneYard(y)
			spoilYard(r, &changed)
			right := plainYardRight(changed)
			count[right]++
			wantYardRight(t, right, changed)
		}
	}
	if count[true] < 500 || count[false] < 500 {
		t.Errorf("the spoilt yards are too much alike: %v", count)
	}
}

func TestYardNew(t *testing.T) {
	r := rand.New(rand.NewPCG(18, 2))
	configs := []impl.Config{plainConfig(), fullConfig(), wide(1), wide(8)}
	for range 200 {
		c := mixedConfig(r)
		configs = append(configs, c, cloneConfig(c))
		spoilConfig(r, &configs[len(configs)-1])
	}
	for _, c := range configs {
		wantYard(t, "YardNew", impl.YardNew(c), plainYardNew(c))
	}
	for n := 1; n <= 6; n++ {
		c := impl.Config{Nodes: alike(n, label(1, 2)), Half: 9}
		wantYard(t, "YardNew", impl.YardNew(c), impl.YardOut{Yard: impl.Yard{Config: c, Nodes: sameNodes(n)}})
	}
	for _, c := range wrongConfigs() {
		wantYardCode(t, "YardNew of a wrong configuration", impl.ErrForm, impl.YardNew(c))
	}
}
