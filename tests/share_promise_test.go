package tests

import (
	"math/rand/v2"
	"slices"
	"testing"

	"loop.example/g00658/impl"
)

// payer is an owner under a label.
type payer struct {
	label impl.Label
	owner string
}

// payers lists more of them than a list of uses has room for, and more owners of each label than there may be.
func payers() []payer {
	var all []payer
	for _, a := range []impl.Label{label(0, 0), label(0, 1), label(0, 7), label(1, 0), label(1, 3), label(2, 0), label(2, 4), label(3, 0), label(3, 6), label(3, 7)} {
		for _, owner := range []string{"a", "a0", "ann", "b", "bob", "boba", longName} {
			all = append(all, payer{label: a, owner: owner})
		}
	}
	return all
}

// bill is kept beside a list of uses: what each payer has used.
type bill map[payer]int64

// wantKept asks for everybody's use: it is what has been written down for that label and owner, and for no other.
func (b bill) wantKept(t *testing.T, l []impl.Use) {
	t.Helper()
	wantUses(t, true, l)
	if len(l) != len(b) {
		t.Fatalf("%d uses of %d payers: %+v", len(l), len(b), l)
	}
	for _, p := range payers() {
		if got := impl.UseOf(l, p.label, p.owner); got != b[p] {
			t.Fatalf("UseOf %+v = %d, want %d", p, got, b[p])
		}
	}
}

// mayPay reports whether a payer is written down or there is room for one more.
func (b bill) mayPay(p payer) bool {
	owners := 0
	for other := range b {
		owners += btoi(other.label == p.label)
	}
	return b[p] > 0 || len(b) < 48 && owners < 6
}

func (b bill) add(l []impl.Use, p payer, n int64) []impl.Use {
	if b.mayPay(p) {
		b[p] = min(b[p]+n, impl.MaxUse)
	}
	return impl.UseAdd(l, p.label, p.owner, n)
}

func (b bill) half(l []impl.Use) []impl.Use {
	for p, n := range b {
		if n == 1 {
			delete(b, p)
		} else {
			b[p] = n / 2
		}
	}
	return impl.UsesHalf(l)
}

// TestUsageIsRecorded is promise 15 over whole executions.
func TestUsageIsRecorded(t *testing.T) {
	r := rand.New(rand.NewPCG(15, 5))
	all := payers()
	full := 0
	for range 20 {
		b := bill{}
		var l []impl.Use
		for range 150 {
			if r.IntN(40) == 0 {
				l = b.half(l)
			} else {
				l = b.add(l, all[r.IntN(len(all))], mixedUsed(r))
			}
			b.wantKept(t, l)
			full += btoi(len(b) == 48)
		}
	}
	if full < 100 {
		t.Errorf("only %d lists were full", full)
	}
}

// TestUseAddChangesNoOther compares each element with the one before the call, and the one to which is added with the sum.
func TestUseAddChangesNoOther(t *testing.T) {
	r := rand.New(rand.NewPCG(15, 6))
	all := payers()
	for range 2000 {
		l := mixedUses(r)
		to, n := all[r.IntN(len(all))], mixedUsed(r)
		if len(l) > 0 && r.IntN(2) == 0 {
			u := l[r.IntN(len(l))]
			to = payer{label: u.Label, owner: u.Owner}
		}
		got := impl.UseAdd(l, to.label, to.owner, n)
		isOther := func(u impl.Use) bool { return u.Label != to.label || u.Owner != to.owner }
		others := slices.DeleteFunc(slices.Clone(l), func(u impl.Use) bool { return !isOther(u) })
		if left := slices.DeleteFunc(slices.Clone(got), func(u impl.Use) bool { return !isOther(u) }); !slices.Equal(left, others) {
			t.Errorf("UseAdd to %+v changes others: %+v, was %+v", to, left, others)
		}
	}
}

// roomyUses drops elements of a list until two more have room whatever their labels are.
func roomyUses(l []impl.Use) []impl.Use {
	var roomy []impl.Use
	for _, u := range l {
		if len(roomy) < 46 && plainOwners(roomy, u.Label) < 4 {
			roomy = append(roomy, u)
		}
	}
	return roomy
}

func TestUsesAreAddedInEitherOrder(t *testing.T) {
	r := rand.New(rand.NewPCG(15, 7))
	all := payers()
	for range 3000 {
		l := roomyUses(mixedUses(r))
		a, b := all[r.IntN(len(all))], all[r.IntN(len(all))]
		if r.IntN(3) == 0 {
			b.label = a.label
		}
		n, m := mixedUsed(r), mixedUsed(r)
		one := impl.UseAdd(impl.UseAdd(l, a.label, a.owner, n), b.label, b.owner, m)
		two := impl.UseAdd(impl.UseAdd(l, b.label, b.owner, m), a.label, a.owner, n)
		if !slices.Equal(one, two) {
			t.Errorf("%d for %+v and %d for %+v: %+v in this order, %+v in the other", n, a, m, b, one, two)
		}
		if a != b && (impl.UseOf(one, a.label, a.owner) != min(impl.UseOf(l, a.label, a.owner)+n, impl.MaxUse) || impl.UseOf(one, b.label, b.owner) != min(impl.UseOf(l, b.label, b.owner)+m, impl.MaxUse)) {
			t.Errorf("%d for %+v and %d for %+v: %+v", n, a, m, b, one)
		}
		// What is added at once is worth the same as what is added in two parts.
		if n+m <= impl.MaxUse && !slices.Equal(impl.UseAdd(l, a.label, a.owner, n+m), impl.UseAdd(impl.UseAdd(l, a.label, a.owner, n), a.label, a.owner, m)) {
			t.Errorf("%d and %d for %+v are not worth %d", n, m, a, n+m)
		}
	}
}

func TestHalvingHalves(t *testing.T) {
	r := rand.New(rand.NewPCG(15, 8))
	for range 600 {
		l := mixedUses(r)
		got := impl.UsesHalf(l)
		left := 0
		for _, u := range l {
			wantUseOf(t, u.Used/2, got, u.Label, u.Owner)
			left += btoi(u.Used > 1)
		}
		if len(got) != left {
			t.Errorf("UsesHalf of %+v leaves %d elements, want %d", l, len(got), left)
		}
	}
}
