package tests

import (
	"slices"
	"testing"

	"loop.example/g00658/impl"
)

func wantChain(t *testing.T, want bool, l ...impl.Label) {
	t.Helper()
	if got := impl.Chain(l); got != want {
		t.Errorf("Chain of %d labels, %+v = %v", len(l), l[:min(len(l), 8)], got)
	}
}

// longChain is one of the longest lists of labels that each dominate the one before.
func longChain() []impl.Label {
	return []impl.Label{label(0, 0), label(0, 1), label(0, 3), label(1, 3), label(1, 7), label(2, 7), label(3, 7)}
}

func TestChainLengths(t *testing.T) {
	wantChain(t, false)
	if impl.Chain(nil) || impl.Chain([]impl.Label{}) {
		t.Error("a chain of none")
	}
	long := longChain()
	for from := range long {
		for to := from + 1; to <= len(long); to++ {
			wantChain(t, to-from <= 4, long[from:to]...)
		}
	}
	wantChain(t, true, label(0, 0), label(1, 3))
	wantChain(t, true, label(0, 0), label(1, 0), label(2, 0), label(3, 0))
	wantChain(t, true, label(2, 0), label(2, 4), label(2, 6), label(2, 7))
	wantChain(t, true, label(0, 0), label(3, 7))
	wantChain(t, false, label(1, 3), label(2, 6))
}

func TestChainOfFewLabels(t *testing.T) {
	all := allLabels()
	for _, a := range all {
		wantChain(t, true, a)
		for _, b := range all {
			two := a != b && plainBelow(a, b)
			wantChain(t, two, a, b)
			for _, c := range all {
				wantChain(t, two && b != c && plainBelow(b, c), a, b, c)
			}
		}
	}
}

// TestChainBreaks puts every valid label at every place of a right chain of four.
func TestChainBreaks(t *testing.T) {
	right := []impl.Label{label(0, 0), label(1, 1), label(2, 3), label(3, 7)}
	wantChain(t, true, right...)
	for at := range right {
		for _, a := range allLabels() {
			l := slices.Clone(right)
			l[at] = a
			want := true
			for i := 1; i < len(l); i++ {
				want = want && l[i] != l[i-1] && plainBelow(l[i-1], l[i])
			}
			wantChain(t, want, l...)
		}
	}
}

func TestChainWithALabelTwice(t *testing.T) {
	long := longChain()
	for _, a := range long {
		wantChain(t, false, a, a)
		wantChain(t, false, a, a, a)
		wantChain(t, false, a, a, a, a)
	}
	for size := 1; size <= 3; size++ {
		for at := range size {
			twice := slices.Insert(slices.Clone(long[:size]), at, long[at])
			wantChain(t, false, twice...)
		}
	}
	wantChain(t, false, label(0, 0), label(1, 1), label(0, 0))
	wantChain(t, false, label(0, 0), label(1, 1), label(2, 1), label(1, 1))
}

func TestChainWithAWrongLabel(t *testing.T) {
	for _, wrong := range wrongLabels() {
		wantChain(t, false, wrong)
		wantChain(t, false, wrong, wrong)
		for size := 1; size <= 4; size++ {
			for at := range size {
				l := slices.Clone(longChain()[:size])
				l[at] = wrong
				wantChain(t, false, l...)
			}
		}
	}
}

func TestChainSizeLimit(t *testing.T) {
	for _, size := range []int{5, impl.MaxList - 1, impl.MaxList, impl.MaxList + 1, 3 * impl.MaxList} {
		l := make([]impl.Label, size)
		wantChain(t, false, l...)
		copy(l, longChain())
		wantChain(t, false, l...)
	}
}

func TestChainKeepsItsArgument(t *testing.T) {
	for _, l := range [][]impl.Label{longChain()[:4], longChain(), {label(3, 7), label(0, 0)}, {label(4, 8)}} {
		before := slices.Clone(l)
		impl.Chain(l)
		if !slices.Equal(l, before) {
			t.Errorf("Chain changed %+v to %+v", before, l)
		}
	}
}
