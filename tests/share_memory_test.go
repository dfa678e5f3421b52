package tests

import (
	"math/rand/v2"
	"slices"
	"testing"

	"loop.example/g00658/impl"
)

// withRoom is a copy of a list that has room behind its elements, also where it has none.
func withRoom(l []impl.Use) []impl.Use {
	return append(make([]impl.Use, 0, len(l)+3), l...)
}

// wantUsesApart calls a function twice with the same list and writes into the first result: neither the second one nor the list may change.
func wantUsesApart(t *testing.T, what string, l []impl.Use, call func(l []impl.Use) []impl.Use) {
	t.Helper()
	arg := withRoom(l)
	before := slices.Clone(arg[:cap(arg)])
	first, second := call(arg), call(arg)
	kept := slices.Clone(second)
	if !slices.Equal(arg[:cap(arg)], before) {
		t.Errorf("%s changes its argument", what)
	}
	for i := range first[:cap(first)] {
		first[:cap(first)][i] = use(label(-5, -5), "?", -5)
	}
	if !slices.Equal(second, kept) {
		t.Errorf("%s: two results share memory", what)
	}
	if !slices.Equal(arg[:cap(arg)], before) {
		t.Errorf("%s: the result shares memory with the argument", what)
	}
	if !slices.Equal(call(arg), kept) || !slices.Equal(kept, call(slices.Clip(slices.Clone(l)))) {
		t.Errorf("%s: another result after a write, or without room behind the list", what)
	}
}

func wantAllUsesApart(t *testing.T, l []impl.Use, a impl.Label, owner string, n int64) {
	t.Helper()
	wantUsesApart(t, "UseAdd", l, func(l []impl.Use) []impl.Use { return impl.UseAdd(l, a, owner, n) })
	wantUsesApart(t, "UsesHalf", l, impl.UsesHalf)
	wantUsesApart(t, "UsesRight and UseOf", l, func(l []impl.Use) []impl.Use {
		if impl.UsesRight(l) != plainUsesRight(l) || impl.UseOf(l, a, owner) != plainUseOf(l, a, owner) {
			t.Errorf("another result for %+v with room behind it", fewUses(l))
		}
		return nil
	})
}

func TestUsesShareNoMemory(t *testing.T) {
	r := rand.New(rand.NewPCG(15, 9))
	lists := [][]impl.Use{nil, {}, threeUses(), manyUses(48, 6), manyUses(48, 2), manyUses(6, 6)}
	for range 200 {
		lists = append(lists, mixedUses(r), spoilUses(r, mixedUses(r)))
	}
	for _, l := range lists {
		// Something new, something that is there, and what leaves the list unchanged.
		wantAllUsesApart(t, l, label(0, 0), "zoe", 5)
		wantAllUsesApart(t, l, label(3, 7), "ann", impl.MaxUse)
		wantAllUsesApart(t, l, label(4, 0), "ann", 5)
		wantAllUsesApart(t, l, label(0, 0), "", 5)
		wantAllUsesApart(t, l, label(0, 0), "ann", 0)
		for _, u := range l[:min(len(l), 4)] {
			wantAllUsesApart(t, l, u.Label, u.Owner, 1)
		}
	}
}

// TestWrongUsesAreKept looks at arguments that are invalid or too long.
func TestWrongUsesAreKept(t *testing.T) {
	for _, l := range slices.Concat(wrongUses(), tooManyUses()) {
		wantAllUsesApart(t, l, label(0, 0), "zoe", 5)
		wantAllUsesApart(t, l, l[0].Label, l[0].Owner, 1)
	}
}

// TestUsesKeepNoState adds and halves others between two calls.
func TestUsesKeepNoState(t *testing.T) {
	l := threeUses()
	want := slices.Insert(threeUses(), 1, use(label(0, 0), "cy", 4))
	for range 5 {
		wantAdded(t, want, l, label(0, 0), "cy", 4)
		impl.UseAdd(manyUses(48, 6), label(0, 0), "n000", 4)
		impl.UsesHalf(manyUses(48, 6))
		impl.UseAdd(nil, label(0, 0), "cy", 4)
		wantUseOf(t, 3, l, label(0, 0), "bob")
		wantUseOf(t, 0, l, label(0, 0), "cy")
		wantRank(t, 240, 2, 60, 10)
	}
}
