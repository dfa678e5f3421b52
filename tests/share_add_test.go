package tests

import (
	"math/rand/v2"
	"slices"
	"testing"

	"loop.example/g00658/impl"
)

func wantAdded(t *testing.T, want []impl.Use, l []impl.Use, a impl.Label, owner string, n int64) {
	t.Helper()
	got := impl.UseAdd(l, a, owner, n)
	if !slices.Equal(got, want) || !slices.Equal(got, plainUseAdd(l, a, owner, n)) {
		t.Errorf("UseAdd(%d uses, %+v, %+v, %q, %d) = %d uses, %+v, want %d, %+v", len(l), fewUses(l), a, short(owner), n, len(got), fewUses(got), len(want), fewUses(want))
	}
	if impl.UsesRight(l) && len(owner) <= impl.MaxBytes {
		wantUses(t, true, got)
	}
}

// wantKeptAs expects that nothing is added.
func wantKeptAs(t *testing.T, l []impl.Use, a impl.Label, owner string, n int64) {
	t.Helper()
	wantAdded(t, l, l, a, owner, n)
}

func TestUseAddToNothing(t *testing.T) {
	for _, n := range []int64{1, 2, 3, 256, impl.MaxUse - 1, impl.MaxUse} {
		for _, a := range allLabels() {
			wantAdded(t, []impl.Use{use(a, "bob", n)}, nil, a, "bob", n)
			wantAdded(t, []impl.Use{use(a, "bob", n)}, []impl.Use{}, a, "bob", n)
		}
		for _, name := range rightNames() {
			wantAdded(t, []impl.Use{use(label(1, 2), name, n)}, nil, label(1, 2), name, n)
		}
	}
}

func TestUseAddOfExample(t *testing.T) {
	low := label(0, 0)
	one := impl.UseAdd(nil, low, "bob", 3)
	wantAdded(t, []impl.Use{use(low, "ann", 2), use(low, "bob", 3)}, one, low, "ann", 2)
}

// TestUseAddPlaces has a new element at each place: by its label, and by its owner among those of its label.
func TestUseAddPlaces(t *testing.T) {
	middle, top := label(1, 1), label(2, 0)
	l := []impl.Use{use(middle, "bob", 5), use(middle, "dan", 7), use(top, "bob", 9)}
	for _, c := range []struct {
		at    int
		label impl.Label
		owner string
	}{
		{0, label(0, 0), "zoe"}, {0, label(0, 7), "bob"}, {0, label(1, 0), "zoe"},
		{0, middle, "ann"}, {0, middle, "b"}, {0, middle, "bo"}, {0, middle, "bo_"},
		{1, middle, "bob0"}, {1, middle, "bob_"}, {1, middle, "boba"}, {1, middle, "cy"}, {1, middle, "da"},
		{2, middle, "dan1"}, {2, middle, "eve"}, {2, label(1, 2), "ann"}, {2, label(1, 7), "zoe"},
		{2, top, "ann"}, {2, top, "bo"},
		{3, top, "bob0"}, {3, top, "zoe"}, {3, label(2, 1), "ann"}, {3, label(3, 0), "ann"}, {3, label(3, 7), "bob"},
	} {
		for _, n := range []int64{1, 6, impl.MaxUse} {
			wantAdded(t, slices.Insert(slices.Clone(l), c.at, use(c.label, c.owner, n)), l, c.label, c.owner, n)
		}
	}
}

func TestUseAddUpToMost(t *testing.T) {
	for _, c := range []struct{ used, n, sum int64 }{
		{1, 1, 2}, {2, 3, 5}, {1, 99997, 99998}, {1, 99998, 99999}, {1, 99999, 100000}, {1, 100000, 100000},
		{2, 99997, 99999}, {2, 99998, 100000}, {2, 99999, 100000}, {50000, 49999, 99999}, {50000, 50000, 100000}, {50000, 50001, 100000},
		{99998, 1, 99999}, {99998, 2, 100000}, {99998, 3, 100000}, {99999, 1, 100000}, {99999, 2, 100000}, {99999, 100000, 100000},
		{100000, 1, 100000}, {100000, 2, 100000}, {100000, 99999, 100000}, {100000, 100000, 100000},
	} {
		for _, l := range [][]impl.Use{threeUses(), manyUses(1, 1), manyUses(6, 6), manyUses(48, 6), manyUses(48, 2), manyUses(42, 6)} {
			for _, at := range []int{0, len(l) / 2, len(l) - 1} {
				before, after := slices.Clone(l), slices.Clone(l)
				before[at].Used, after[at].Used = c.used, c.sum
				wantAdded(t, after, before, l[at].Label, l[at].Owner, c.n)
			}
		}
	}
}

func TestUseAddOfWrongNumbers(t *testing.T) {
	for _, n := range wrongUsed() {
		wantKeptAs(t, nil, label(0, 0), "ann", n)
		for _, u := range threeUses() {
			wantKeptAs(t, threeUses(), u.Label, u.Owner, n)
			wantKeptAs(t, threeUses(), u.Label, "new", n)
			wantKeptAs(t, threeUses(), label(1, 6), u.Owner, n)
		}
		wantKeptAs(t, manyUses(48, 6), label(0, 0), "n000", n)
	}
}

// TestUseAddCountsOwners has the label with many owners as the first one, in between, and as the last.
func TestUseAddCountsOwners(t *testing.T) {
	for at := range 3 {
		for owners := 1; owners <= 6; owners++ {
			l := crowdedUses(at, owners)
			a := l[at].Label
			for _, name := range []string{"ann", "n", "n000a", "n003a", "n004a", "zoe"} {
				if owners == 6 {
					wantKeptAs(t, l, a, name, 1)
					wantKeptAs(t, l, a, name, impl.MaxUse)
				} else if got := impl.UseAdd(l, a, name, 4); len(got) != len(l)+1 || impl.UseOf(got, a, name) != 4 {
					t.Errorf("UseAdd of %q to %d owners: %+v", name, owners, got)
				}
				// Other labels have room.
				for _, other := range []impl.Label{label(0, 1), label(2, 0), label(3, 6)} {
					wantAdded(t, plainUseAdd(l, other, name, 1), l, other, name, 1)
				}
			}
			for i := range owners {
				more := slices.Clone(l)
				more[at+i].Used += 5
				wantAdded(t, more, l, a, l[at+i].Owner, 5)
			}
		}
	}
}

func TestUseAddFillsLabel(t *testing.T) {
	var l []impl.Use
	for i, name := range rightNames() {
		l = impl.UseAdd(l, label(2, 5), name, 7)
		if len(l) != min(i+1, 6) {
			t.Fatalf("after %d owners: %+v", i+1, l)
		}
		wantUses(t, true, l)
	}
	for i, name := range rightNames() {
		wantUseOf(t, int64(7*btoi(i < 6)), l, label(2, 5), name)
	}
}

func TestUseAddCountsUses(t *testing.T) {
	for _, each := range []int{2, 3, 4, 5} {
		for n := 44; n <= 48; n++ {
			l := manyUses(n, each)
			places := []impl.Use{use(l[0].Label, "ann", 3), use(l[0].Label, "zoe", 3), use(l[n/2].Label, "n000a", 3), use(l[n-1].Label, "zoe", 3), use(label(3, 7), "ann", 3)}
			for _, u := range places {
				if n == 48 {
					wantKeptAs(t, l, u.Label, u.Owner, u.Used)
				} else {
					want := append(slices.Clone(l), u)
					slices.SortFunc(want, plainCompare)
					wantAdded(t, want, l, u.Label, u.Owner, u.Used)
				}
			}
			for _, at := range []int{0, n / 2, n - 1} {
				more := slices.Clone(l)
				more[at].Used += 3
				wantAdded(t, more, l, l[at].Label, l[at].Owner, 3)
			}
		}
	}
}

// TestUseAddWithoutAnyRoom has 48 elements, and 6 owners of each of their labels.
func TestUseAddWithoutAnyRoom(t *testing.T) {
	l := manyUses(48, 6)
	for i, u := range l {
		more := slices.Clone(l)
		more[i].Used++
		wantAdded(t, more, l, u.Label, u.Owner, 1)
		wantKeptAs(t, l, u.Label, u.Owner+"a", 1)
	}
	for _, a := range allLabels() {
		wantKeptAs(t, l, a, "ann", 1)
		wantKeptAs(t, l, a, "zoe", impl.MaxUse)
	}
}

func TestUseAddOfWrongLabels(t *testing.T) {
	for _, a := range wrongLabels() {
		for _, l := range [][]impl.Use{nil, {}, threeUses(), manyUses(48, 6), {use(a, "ann", 5)}} {
			wantKeptAs(t, l, a, "ann", 1)
			wantKeptAs(t, l, a, "bob", impl.MaxUse)
		}
	}
}

func TestUseAddOfWrongOwners(t *testing.T) {
	for _, name := range wrongNames() {
		for _, l := range [][]impl.Use{nil, {}, threeUses(), manyUses(48, 6), {use(label(0, 0), name, 5)}} {
			wantKeptAs(t, l, label(0, 0), name, 1)
			wantKeptAs(t, l, label(1, 5), name, impl.MaxUse)
			wantKeptAs(t, l, label(4, 0), name, 0)
		}
	}
}

func TestUseAddToWrongUses(t *testing.T) {
	for _, l := range wrongUses() {
		wantKeptAs(t, l, label(0, 0), "zoe", 1)
		wantKeptAs(t, l, l[0].Label, "n", 1)
		wantKeptAs(t, l, label(4, 0), "", 0)
		for _, u := range l[:min(len(l), 10)] {
			wantKeptAs(t, l, u.Label, u.Owner[:min(len(u.Owner), impl.MaxBytes)], 1)
		}
	}
}

// TestUseAddBeyondSizes has the size limits beside everything else that may be wrong: the result is empty, not unchanged.
func TestUseAddBeyondSizes(t *testing.T) {
	for _, l := range tooManyUses() {
		for _, owner := range slices.Concat([]string{"ann", "n000", longName}, wrongNames(), tooLongNames()) {
			for _, n := range []int64{-1, 0, 1, impl.MaxUse, impl.MaxUse + 1} {
				wantAdded(t, nil, l, label(0, 0), owner, n)
				wantAdded(t, nil, l, label(4, 0), owner, n)
			}
		}
	}
	for _, owner := range tooLongNames() {
		for _, l := range append(wrongUses(), nil, []impl.Use{}, threeUses(), manyUses(48, 6)) {
			wantAdded(t, nil, l, label(0, 0), owner, 1)
			wantAdded(t, nil, l, label(4, 0), owner, 0)
		}
	}
}

func TestUseAddToMixedUses(t *testing.T) {
	r := rand.New(rand.NewPCG(15, 3))
	names := append(rightNames(), "Ann", "0", "")
	count := map[string]int{}
	for range 10000 {
		l := mixedUses(r)
		if r.IntN(8) == 0 {
			l = spoilUses(r, l)
		}
		a, name, n := label(int64(r.IntN(5)), int64(r.IntN(8))), names[r.IntN(len(names))], mixedUsed(r)-int64(r.IntN(2))
		if len(l) > 0 && r.IntN(2) == 0 {
			a = l[r.IntN(len(l))].Label
		}
		want := plainUseAdd(l, a, name, n)
		wantAdded(t, want, l, a, name, n)
		switch {
		case len(want) > len(l):
			count["new"]++
		case !slices.Equal(want, l):
			count["there"]++
		case plainUsesRight(l) && (len(l) == 48 || plainOwners(l, a) == 6):
			count["full"]++
		default:
			count["other"]++
		}
	}
	for _, kind := range []string{"new", "there", "full", "other"} {
		if count[kind] < 500 {
			t.Errorf("the calls are too much alike: %v", count)
		}
	}
}
