package tests

import (
	"math"
	"testing"

	"loop.example/g00658/impl"
)

func label(level int64, set int64) impl.Label {
	return impl.Label{Level: level, Set: set}
}

// allLabels lists the 32 valid labels.
func allLabels() []impl.Label {
	var all []impl.Label
	for level := range int64(4) {
		for set := range int64(8) {
			all = append(all, label(level, set))
		}
	}
	return all
}

// wrongLabels lists labels with a field on the far side of each limit, beside right and wrong other fields.
func wrongLabels() []impl.Label {
	far := []int64{math.MinInt64, math.MinInt64 + 1, -8, -1, 8, 9, 16, 255, 256, 1 << 32, math.MaxInt64}
	wrong := []impl.Label{label(4, 0), label(4, 7), label(5, 3), label(7, 1), label(4, 8), label(-1, -1)}
	for _, n := range far {
		wrong = append(wrong, label(n, 0), label(n, 7), label(0, n), label(3, n), label(n, n))
	}
	return wrong
}

// plainBelow compares the categories one by one.
func plainBelow(a impl.Label, b impl.Label) bool {
	for _, category := range []int64{1, 2, 4} {
		if a.Set&category != 0 && b.Set&category == 0 {
			return false
		}
	}
	return a.Level <= b.Level
}

func TestLabelRight(t *testing.T) {
	for _, a := range allLabels() {
		if !impl.LabelRight(a) {
			t.Errorf("LabelRight(%+v) = false", a)
		}
	}
	for _, a := range wrongLabels() {
		if impl.LabelRight(a) {
			t.Errorf("LabelRight(%+v) = true", a)
		}
	}
	for level := int64(-20); level < 20; level++ {
		for set := int64(-20); set < 20; set++ {
			want := level >= 0 && level <= 3 && set >= 0 && set <= 7
			if got := impl.LabelRight(label(level, set)); got != want {
				t.Errorf("LabelRight(%d, %d) = %v", level, set, got)
			}
		}
	}
}

func TestBelow(t *testing.T) {
	for _, a := range allLabels() {
		for _, b := range allLabels() {
			if got := impl.Below(a, b); got != plainBelow(a, b) {
				t.Errorf("Below(%+v, %+v) = %v", a, b, got)
			}
		}
	}
	for _, c := range []struct {
		a, b impl.Label
		want bool
	}{
		{label(1, 3), label(2, 6), false},
		{label(2, 6), label(1, 3), false},
		{label(1, 2), label(1, 3), true},
		{label(1, 2), label(2, 6), true},
		{label(0, 1), label(0, 6), false},
		{label(0, 1), label(3, 2), false},
		{label(2, 0), label(1, 7), false},
		{label(3, 7), label(3, 7), true},
		{label(0, 0), label(3, 7), true},
		{label(0, 0), label(0, 0), true},
	} {
		if got := impl.Below(c.a, c.b); got != c.want {
			t.Errorf("Below(%+v, %+v) = %v", c.a, c.b, got)
		}
	}
}

func TestBelowIsAnOrder(t *testing.T) {
	all := allLabels()
	for _, a := range all {
		for _, b := range all {
			if impl.Below(a, b) && impl.Below(b, a) != (a == b) {
				t.Errorf("%+v and %+v are below each other", a, b)
			}
			for _, c := range all {
				if impl.Below(a, b) && impl.Below(b, c) && !impl.Below(a, c) {
					t.Errorf("%+v, %+v, %+v: not transitive", a, b, c)
				}
			}
		}
	}
}

func TestJoinIsTheLeastUpperBound(t *testing.T) {
	all := allLabels()
	for _, a := range all {
		for _, b := range all {
			j := impl.JoinOf(a, b)
			if !impl.LabelRight(j) || !plainBelow(a, j) || !plainBelow(b, j) {
				t.Errorf("JoinOf(%+v, %+v) = %+v is no upper bound", a, b, j)
			}
			for _, c := range all {
				if plainBelow(a, c) && plainBelow(b, c) && !plainBelow(j, c) {
					t.Errorf("JoinOf(%+v, %+v) = %+v, but %+v is a bound too", a, b, j, c)
				}
			}
			if impl.JoinOf(b, a) != j {
				t.Errorf("JoinOf(%+v, %+v) depends on the order", a, b)
			}
		}
	}
	if got := impl.JoinOf(label(1, 3), label(2, 6)); got != label(2, 7) {
		t.Errorf("JoinOf = %+v", got)
	}
}

func TestMeetIsTheGreatestLowerBound(t *testing.T) {
	all := allLabels()
	for _, a := range all {
		for _, b := range all {
			m := impl.MeetOf(a, b)
			if !impl.LabelRight(m) || !plainBelow(m, a) || !plainBelow(m, b) {
				t.Errorf("MeetOf(%+v, %+v) = %+v is no lower bound", a, b, m)
			}
			for _, c := range all {
				if plainBelow(c, a) && plainBelow(c, b) && !plainBelow(c, m) {
					t.Errorf("MeetOf(%+v, %+v) = %+v, but %+v is a bound too", a, b, m, c)
				}
			}
			if impl.MeetOf(b, a) != m {
				t.Errorf("MeetOf(%+v, %+v) depends on the order", a, b)
			}
		}
	}
	if got := impl.MeetOf(label(1, 3), label(2, 6)); got != label(1, 2) {
		t.Errorf("MeetOf = %+v", got)
	}
}

func TestWrongLabelsInPairs(t *testing.T) {
	for _, wrong := range wrongLabels() {
		others := append(allLabels(), wrong, label(4, 8), label(-1, 0))
		for _, other := range others {
			wantNoPair(t, wrong, other)
			wantNoPair(t, other, wrong)
		}
	}
}

func wantNoPair(t *testing.T, a impl.Label, b impl.Label) {
	t.Helper()
	if impl.Below(a, b) {
		t.Errorf("Below(%+v, %+v) = true", a, b)
	}
	if got := impl.JoinOf(a, b); got != (impl.Label{}) {
		t.Errorf("JoinOf(%+v, %+v) = %+v", a, b, got)
	}
	if got := impl.MeetOf(a, b); got != (impl.Label{}) {
		t.Errorf("MeetOf(%+v, %+v) = %+v", a, b, got)
	}
}
