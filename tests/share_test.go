package tests

import (
	"math/rand/v2"
	"slices"
	"testing"

	"loop.example/g00658/impl"
)

func wantUses(t *testing.T, want bool, l []impl.Use) {
	t.Helper()
	if got := impl.UsesRight(l); got != want || got != plainUsesRight(l) {
		t.Errorf("UsesRight of %d uses, %+v = %v", len(l), fewUses(l), got)
	}
}

func wantUseOf(t *testing.T, want int64, l []impl.Use, a impl.Label, owner string) {
	t.Helper()
	if got := impl.UseOf(l, a, owner); got != want || got != plainUseOf(l, a, owner) {
		t.Errorf("UseOf(%d uses, %+v, %+v, %q) = %d, want %d", len(l), fewUses(l), a, short(owner), got, want)
	}
}

func TestUsesRightCountsUses(t *testing.T) {
	wantUses(t, true, nil)
	wantUses(t, true, []impl.Use{})
	wantUses(t, true, threeUses())
	for each := 2; each <= 6; each++ {
		for n := range 60 {
			wantUses(t, n <= 48, manyUses(n, each))
		}
	}
	for n := range 33 {
		wantUses(t, true, manyUses(n, 1))
	}
	for _, n := range []int{100, 191, 192} {
		wantUses(t, false, manyUses(n, 6))
	}
	for _, n := range []int{impl.MaxList - 1, impl.MaxList, impl.MaxList + 1, 3 * impl.MaxList} {
		wantUses(t, false, manyUses(n, 40))
		wantUses(t, false, make([]impl.Use, n))
	}
}

// TestUsesRightCountsOwners has the label with many owners as the only one, the first, in between and as the last.
func TestUsesRightCountsOwners(t *testing.T) {
	for owners := 1; owners <= 20; owners++ {
		wantUses(t, owners <= 6, manyUses(owners, owners))
		for at := range 3 {
			wantUses(t, owners <= 6, crowdedUses(at, owners))
		}
	}
	// Every label but one has all its owners.
	for at := range 7 {
		l := manyUses(42, 6)
		l = slices.Insert(l, 6*at+6, use(l[6*at].Label, "zoe", 1))
		wantUses(t, false, l)
		wantUses(t, true, slices.Delete(l, 6*at, 6*at+1))
	}
}

func TestUsesRightOfUsed(t *testing.T) {
	for i := range threeUses() {
		l := threeUses()
		for _, n := range []int64{1, 2, 89, 90, 91, 256, impl.MaxUse - 1, impl.MaxUse} {
			l[i].Used = n
			wantUses(t, true, l)
			wantUses(t, true, l[i:i+1])
		}
		for _, n := range wrongUsed() {
			l[i].Used = n
			wantUses(t, false, l)
			wantUses(t, false, l[i:i+1])
		}
	}
}

func TestUsesRightOfOwners(t *testing.T) {
	for i := range threeUses() {
		l := threeUses()
		for _, name := range rightNames() {
			l[i].Owner = name
			wantUses(t, true, l)
			wantUses(t, true, l[i:i+1])
		}
		for _, name := range slices.Concat(wrongNames(), tooLongNames()) {
			l[i].Owner = name
			wantUses(t, false, l)
			wantUses(t, false, l[i:i+1])
		}
	}
	for b := range 256 {
		one := string([]byte{byte(b)})
		letter := b >= 'a' && b <= 'z'
		wantUses(t, letter, []impl.Use{use(label(0, 0), one, 1)})
		wantUses(t, letter || b >= '0' && b <= '9' || b == '_', []impl.Use{use(label(0, 0), "a"+one, 1)})
	}
}

func TestUsesRightOfLabels(t *testing.T) {
	for _, a := range allLabels() {
		wantUses(t, true, []impl.Use{use(a, "ann", 1)})
	}
	for _, a := range wrongLabels() {
		wantUses(t, false, []impl.Use{use(a, "ann", 1)})
	}
	wantUses(t, true, manyUses(32, 1))
}

// TestUsesRightOfAllPairs has any two labels with any two names: only an increase is right, whatever has been used.
func TestUsesRightOfAllPairs(t *testing.T) {
	names := rightNames()
	for i, a := range allLabels() {
		for k, b := range allLabels() {
			for m, first := range names {
				n := (m*5 + i + k) % len(names)
				wantUses(t, i < k || i == k && m < n, []impl.Use{use(a, first, 5), use(b, names[n], int64(1+n))})
				wantUses(t, i < k, []impl.Use{use(a, first, 5), use(b, first, 5)})
			}
		}
	}
	for m, first := range names {
		for n, second := range names {
			wantUses(t, m < n, []impl.Use{use(label(1, 2), first, 9), use(label(1, 2), second, 8)})
		}
	}
}

func TestUsesRightOfWrongUses(t *testing.T) {
	for _, l := range slices.Concat(wrongUses(), tooManyUses()) {
		wantUses(t, false, l)
	}
}

func TestUsesRightOfMixedUses(t *testing.T) {
	r := rand.New(rand.NewPCG(15, 1))
	count := map[bool]int{}
	for range 3000 {
		l := mixedUses(r)
		wantUses(t, true, l)
		l = spoilUses(r, l)
		right := plainUsesRight(l)
		count[right]++
		wantUses(t, right, l)
	}
	if count[true] < 200 || count[false] < 200 {
		t.Errorf("the spoilt lists are too much alike: %v", count)
	}
}

func TestUseOf(t *testing.T) {
	low, high := label(0, 0), label(1, 5)
	l := []impl.Use{use(low, "ann", 2), use(low, "bob", 3), use(high, "bob", impl.MaxUse), use(high, "cy", 1)}
	wantUseOf(t, 2, l, low, "ann")
	wantUseOf(t, 3, l, low, "bob")
	wantUseOf(t, impl.MaxUse, l, high, "bob")
	wantUseOf(t, 1, l, high, "cy")
	// These are the owners of the other label.
	wantUseOf(t, 0, l, low, "cy")
	wantUseOf(t, 0, l, high, "ann")
	for _, owner := range []string{"", "an", "annn", "ann0", "Ann", "bo", "bobb", "c", "zoe", "ann ", longName} {
		wantUseOf(t, 0, l, low, owner)
		wantUseOf(t, 0, l, high, owner)
	}
	for _, a := range allLabels() {
		if a != low && a != high {
			wantUseOf(t, 0, l, a, "ann")
			wantUseOf(t, 0, l, a, "bob")
		}
	}
	wantUseOf(t, 0, nil, low, "ann")
	wantUseOf(t, 0, []impl.Use{}, low, "ann")
}

func TestUseOfEveryElement(t *testing.T) {
	for _, l := range [][]impl.Use{threeUses(), manyUses(48, 6), manyUses(48, 2), manyUses(32, 1), manyUses(1, 1)} {
		for _, u := range l {
			wantUseOf(t, u.Used, l, u.Label, u.Owner)
		}
	}
	for _, name := range rightNames() {
		l := []impl.Use{use(label(2, 3), name, 77)}
		for _, other := range rightNames() {
			wantUseOf(t, int64(77*btoi(name == other)), l, label(2, 3), other)
		}
	}
}

func TestUseOfWrongArguments(t *testing.T) {
	for _, a := range wrongLabels() {
		wantUseOf(t, 0, threeUses(), a, "ann")
		wantUseOf(t, 0, []impl.Use{use(a, "ann", 5)}, a, "ann")
		wantUseOf(t, 0, nil, a, "ann")
	}
	for _, name := range slices.Concat(wrongNames(), tooLongNames()) {
		wantUseOf(t, 0, threeUses(), label(0, 0), name)
		wantUseOf(t, 0, []impl.Use{use(label(0, 0), name, 5)}, label(0, 0), name)
		wantUseOf(t, 0, nil, label(0, 0), name)
	}
	for _, l := range slices.Concat(wrongUses(), tooManyUses()) {
		for _, u := range l[:min(len(l), 50)] {
			wantUseOf(t, 0, l, u.Label, u.Owner)
		}
	}
}

func TestUseOfMixedUses(t *testing.T) {
	r := rand.New(rand.NewPCG(15, 2))
	for range 200 {
		l := mixedUses(r)
		for _, u := range l {
			wantUseOf(t, u.Used, l, u.Label, u.Owner)
			other := allLabels()[r.IntN(32)]
			wantUseOf(t, plainUseOf(l, other, u.Owner), l, other, u.Owner)
		}
		l = spoilUses(r, l)
		for _, u := range l {
			wantUseOf(t, plainUseOf(l, u.Label, u.Owner), l, u.Label, u.Owner)
		}
	}
}
