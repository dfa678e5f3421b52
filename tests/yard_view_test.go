package tests

import (
	"math/rand/v2"
	"slices"
	"testing"

	"loop.example/g00658/impl"
)

func wantYardView(t *testing.T, want string, y impl.Yard, a impl.Label) {
	t.Helper()
	if got := impl.YardView(y, a); got != want || got != plainYardView(y, a) {
		t.Fatalf("YardView(%+v, %+v) = %q, want %q", fewOfYard(y), a, got, want)
	}
}

// headOf is what any label sees of busyYard: the time and the nodes.
func headOf() string {
	return numText(9, 1, 1, 12, 14, 2, 0, 1, 2, 10, 11, 20, 30)
}

func TestYardView(t *testing.T) {
	y := busyYard()
	head, parts := headOf(), map[impl.Label]string{}
	for _, x := range y.Tasks {
		parts[x.Label] += impl.TaskBytes(x)
	}
	ann, bob, middle, high := numText(0, 0)+lined("ann")+numText(3), numText(0, 0)+lined("bob")+numText(5), numText(1, 0)+lined("ann")+numText(1), numText(2, 1)+lined(longName)+numText(100000)
	low := parts[label(0, 0)]
	wantYardView(t, head+low+ann+bob, y, label(0, 0))
	wantYardView(t, head+low+parts[label(1, 0)]+ann+bob+middle, y, label(1, 0))
	wantYardView(t, head+low+parts[label(1, 0)]+parts[label(1, 1)]+ann+bob+middle, y, label(1, 1))
	all := head + low + parts[label(1, 0)] + parts[label(1, 1)] + parts[label(2, 1)] + ann + bob + middle + high
	wantYardView(t, all, y, label(2, 1))
	// These labels are valid, but not of the configuration.
	wantYardView(t, head+low+ann+bob, y, label(0, 7))
	wantYardView(t, head+low+parts[label(1, 0)]+ann+bob+middle, y, label(3, 2))
	wantYardView(t, all, y, label(3, 7))
	if low == "" || parts[label(2, 1)] == "" {
		t.Error("there is nothing to be seen")
	}
}

func TestYardViewOfNewYards(t *testing.T) {
	y := emptyYard(impl.Config{Nodes: alike(3, label(0, 0)), Half: 4})
	wantYardView(t, "\x00\x02\x00\x02\x00\x02\x00", y, label(0, 0))
	wantYardView(t, "\x00\x02\x00\x02\x00\x02\x00", y, label(3, 7))
	y.Now = 1
	y.Nodes[1] = node(impl.NdDown, 3, 64)
	wantYardView(t, "\x02\x02\x00\x06\x02\x06\x80\x01\x02\x00", y, label(0, 0))
	// Only labels above 0:a see the next one.
	y = yardWith(impl.Config{Nodes: alike(1, label(0, 1)), Half: 4}, task(label(0, 1), 1))
	for _, a := range allLabels() {
		want := "\x12\x02\x00"
		if a.Set&1 == 1 {
			want += impl.TaskBytes(y.Tasks[0])
		}
		wantYardView(t, want, y, a)
	}
}

func TestYardViewOfWrongArguments(t *testing.T) {
	for _, a := range wrongLabels() {
		wantYardView(t, "", busyYard(), a)
		wantYardView(t, "", emptyYard(plainConfig()), a)
	}
	for _, y := range wrongYards() {
		for _, a := range []impl.Label{label(0, 0), label(2, 1), label(3, 7), label(4, 0)} {
			wantYardView(t, "", y, a)
		}
	}
}

// TestYardViewTakesNilAndEmptyAlike looks at yards that have nothing where they may.
func TestYardViewTakesNilAndEmptyAlike(t *testing.T) {
	y := withYard(emptyYard(plainConfig()), func(y *impl.Yard) { y.Tasks, y.Uses = tasksOf(label(0, 0), 1), nil })
	want := plainYardView(y, label(0, 0))
	y.Tasks[0].Nodes, y.Uses, y.Nodes[0].Books, y.Config.Pairs = []int64{}, []impl.Use{}, []impl.Span{}, []impl.Pair{}
	wantYardView(t, want, y, label(0, 0))
	y.Tasks = nil
	want = plainYardView(y, label(0, 0))
	y.Tasks = []impl.Task{}
	wantYardView(t, want, y, label(0, 0))
}

func TestYardViewOfMixedYards(t *testing.T) {
	r := rand.New(rand.NewPCG(18, 6))
	yards := []impl.Yard{busyYard(), fullYard(), stateYard(), runYard()}
	for range 150 {
		y := mixedYard(r)
		changed := cloneYard(y)
		spoilYard(r, &changed)
		yards = append(yards, y, changed)
	}
	for _, y := range yards {
		for _, a := range append(allLabels(), label(4, 0), label(0, -1)) {
			wantYardView(t, plainYardView(y, a), y, a)
		}
	}
}

// TestYardViewShowsNothingElse removes what is not visible: the view stays the same. It changes if something visible does.
func TestYardViewShowsNothingElse(t *testing.T) {
	r := rand.New(rand.NewPCG(18, 7))
	for range 300 {
		y := mixedYard(r)
		a := allLabels()[r.IntN(32)]
		left := cloneYard(y)
		left.Tasks = slices.DeleteFunc(left.Tasks, func(x impl.Task) bool { return !plainBelow(x.Label, a) })
		left.Uses = slices.DeleteFunc(left.Uses, func(u impl.Use) bool { return !plainBelow(u.Label, a) })
		wantYardView(t, impl.YardView(y, a), left, a)
		for i := range left.Tasks {
			changed := cloneYard(left)
			changed.Tasks[i].Prio = 9 - changed.Tasks[i].Prio
			if impl.YardView(changed, a) == impl.YardView(y, a) {
				t.Errorf("a task has changed, and the view has not: %+v", changed.Tasks[i])
			}
		}
		for i := range left.Uses {
			changed := cloneYard(left)
			changed.Uses[i].Used = 1 + changed.Uses[i].Used%impl.MaxUse
			if impl.YardView(changed, a) == impl.YardView(y, a) {
				t.Errorf("a use has changed, and the view has not: %+v", changed.Uses[i])
			}
		}
	}
}
