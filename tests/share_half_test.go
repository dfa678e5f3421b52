package tests

import (
	"math/rand/v2"
	"slices"
	"testing"

	"loop.example/g00658/impl"
)

func wantHalved(t *testing.T, want []impl.Use, l []impl.Use) {
	t.Helper()
	got := impl.UsesHalf(l)
	if !slices.Equal(got, want) || !slices.Equal(got, plainUsesHalf(l)) {
		t.Errorf("UsesHalf of %d uses, %+v = %+v, want %+v", len(l), fewUses(l), fewUses(got), fewUses(want))
	}
	wantUses(t, true, got)
}

// usesOf makes a list with these numbers, for different owners of different labels.
func usesOf(nums ...int64) []impl.Use {
	l := manyUses(len(nums), 3)
	for i, n := range nums {
		l[i].Used = n
	}
	return l
}

func TestUsesHalf(t *testing.T) {
	a := label(1, 3)
	for _, c := range []struct{ used, half int64 }{{2, 1}, {3, 1}, {4, 2}, {5, 2}, {90, 45}, {91, 45}, {49999, 24999}, {99998, 49999}, {99999, 49999}, {100000, 50000}} {
		wantHalved(t, []impl.Use{use(a, "ann", c.half)}, []impl.Use{use(a, "ann", c.used)})
		wantHalved(t, []impl.Use{use(a, "ann", c.half), use(a, "bob", 9)}, []impl.Use{use(a, "ann", c.used), use(a, "bob", 18)})
		wantHalved(t, []impl.Use{use(a, "ann", 9), use(a, "bob", c.half)}, []impl.Use{use(a, "ann", 19), use(a, "bob", c.used)})
	}
	for used := int64(2); used <= impl.MaxUse; used += 37 {
		wantHalved(t, []impl.Use{use(a, "ann", used/2)}, []impl.Use{use(a, "ann", used)})
	}
}

func TestUsesHalfRemoves(t *testing.T) {
	wantHalved(t, nil, usesOf(1))
	wantHalved(t, nil, usesOf(1, 1, 1, 1, 1, 1, 1))
	wantHalved(t, nil, nil)
	wantHalved(t, nil, []impl.Use{})
	all := make([]int64, 48)
	for i := range all {
		all[i] = 1
	}
	wantHalved(t, nil, usesOf(all...))
	l := usesOf(1, 2, 1, 3, 99999, 1, 100000, 1)
	wantHalved(t, []impl.Use{
		use(l[1].Label, l[1].Owner, 1), use(l[3].Label, l[3].Owner, 1), use(l[4].Label, l[4].Owner, 49999), use(l[6].Label, l[6].Owner, 50000),
	}, l)
	// One element becomes 0, at each place of a full list.
	for i := range 48 {
		l, want := manyUses(48, 6), manyUses(48, 6)
		for k := range l {
			l[k].Used, want[k].Used = int64(2*k+3), int64(k+1)
		}
		l[i].Used = 1
		wantHalved(t, slices.Delete(want, i, i+1), l)
	}
}

func TestUsesHalfOfExample(t *testing.T) {
	low := label(0, 0)
	l := []impl.Use{use(low, "ann", 2), use(low, "bob", 3)}
	once := []impl.Use{use(low, "ann", 1), use(low, "bob", 1)}
	wantHalved(t, once, l)
	wantHalved(t, nil, once)
}

func TestUsesHalfOfWrongUses(t *testing.T) {
	for _, l := range slices.Concat(wrongUses(), tooManyUses()) {
		wantHalved(t, nil, l)
	}
}

// TestUsesHalfOfMixedUses halves until nothing is left, which takes no more than seventeen times.
func TestUsesHalfOfMixedUses(t *testing.T) {
	r := rand.New(rand.NewPCG(15, 4))
	for range 400 {
		l := mixedUses(r)
		for range 17 {
			wantHalved(t, plainUsesHalf(l), l)
			l = impl.UsesHalf(l)
		}
		if len(l) != 0 {
			t.Fatalf("after seventeen times: %+v", l)
		}
		l = spoilUses(r, mixedUses(r))
		wantHalved(t, plainUsesHalf(l), l)
	}
}
