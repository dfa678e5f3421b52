package tests

import (
	"math/rand/v2"
	"slices"
	"testing"

	"loop.example/g00658/impl"
)

// wantAsked compares all that is asked of a configuration, valid or not, for all labels.
func wantAsked(t *testing.T, c impl.Config) {
	t.Helper()
	right := plainConfigRight(c)
	var labels []impl.Label
	if right {
		labels = plainLabelsOf(c)
	}
	if got := impl.LabelsOf(c); !slices.Equal(got, labels) {
		t.Errorf("LabelsOf(%+v) = %+v, want %+v", c, got, labels)
	}
	asked := append(allLabels(), wrongLabels()...)
	for _, a := range asked {
		var nodes []int64
		if right && plainLabelRight(a) {
			nodes = plainNodesFor(c, a)
		}
		if got := impl.ClearFor(c, a); !slices.Equal(got, nodes) {
			t.Errorf("ClearFor(%+v, %+v) = %v, want %v", c, a, got, nodes)
		}
		if got, want := impl.QuotaOf(c, a), plainQuotaOf(c, a); got != want {
			t.Errorf("QuotaOf(%+v, %+v) = %d, want %d", c, a, got, want)
		}
	}
	for _, p := range c.Pairs[:min(len(c.Pairs), 5)] {
		asked = append(labels, p.From, p.To, label(-1, 0), label(3, 7))
		for _, a := range asked {
			wantPairAt(t, c, a, p.To)
			wantPairAt(t, c, p.From, a)
			wantPairAt(t, c, a, a)
			wantPairAt(t, c, p.To, a)
		}
	}
}

func wantPairAt(t *testing.T, c impl.Config, from impl.Label, to impl.Label) {
	t.Helper()
	if got, want := impl.PairAt(c, from, to), plainPairAt(c, from, to); got != want {
		t.Errorf("PairAt(%+v, %+v, %+v) = %d, want %d", c, from, to, got, want)
	}
}

// TestLabelsOfAreInOrder has levels that come before sets, and nodes that are not in the order of their labels.
func TestLabelsOfAreInOrder(t *testing.T) {
	for _, c := range []struct {
		nodes [][]impl.Label
		want  []impl.Label
	}{
		{[][]impl.Label{{label(0, 0)}}, []impl.Label{label(0, 0)}},
		{[][]impl.Label{{label(2, 0)}, {label(1, 7)}, {label(1, 0)}, {label(0, 7)}}, []impl.Label{label(0, 7), label(1, 0), label(1, 7), label(2, 0)}},
		{[][]impl.Label{{label(0, 4), label(3, 4)}, {label(0, 2), label(3, 7)}, {label(0, 1), label(3, 3)}}, []impl.Label{label(0, 1), label(0, 2), label(0, 4), label(3, 3), label(3, 4), label(3, 7)}},
		{[][]impl.Label{{label(1, 0)}, {label(1, 0)}, {label(0, 0), label(1, 0)}, {label(1, 0)}}, []impl.Label{label(0, 0), label(1, 0)}},
		{wide(8).Nodes, []impl.Label{label(0, 0), label(0, 1), label(1, 0), label(1, 1), label(2, 0), label(2, 1), label(3, 0), label(3, 1)}},
	} {
		if got := impl.LabelsOf(impl.Config{Nodes: c.nodes, Half: 1}); !slices.Equal(got, c.want) {
			t.Errorf("LabelsOf %+v = %+v, want %+v", c.nodes, got, c.want)
		}
	}
}

func TestClearForIsInOrder(t *testing.T) {
	c := plainConfig()
	for a, want := range map[impl.Label][]int64{
		label(0, 0): {0, 1}, label(1, 0): {0, 2}, label(1, 1): {1}, label(2, 1): {0},
		label(0, 1): nil, label(2, 0): nil, label(3, 7): nil, label(4, 0): nil, label(-1, 0): nil, label(0, 8): nil,
	} {
		if got := impl.ClearFor(c, a); !slices.Equal(got, want) {
			t.Errorf("ClearFor %+v = %v, want %v", a, got, want)
		}
	}
	for n := 1; n <= 6; n++ {
		c := impl.Config{Nodes: alike(n, label(0, 0), label(2, 1)), Half: 1}
		if got := impl.ClearFor(c, label(2, 1)); !slices.Equal(got, []int64{0, 1, 2, 3, 4, 5}[:n]) {
			t.Errorf("ClearFor of the label of all %d nodes = %v", n, got)
		}
	}
}

func TestQuotaOf(t *testing.T) {
	c := plainConfig()
	for a, want := range map[impl.Label]int64{
		label(0, 0): 9, label(1, 1): 1, label(2, 1): 4, label(1, 0): impl.QuotaElse,
		label(0, 1): 0, label(2, 0): 0, label(3, 7): 0, label(4, 0): 0, label(0, 8): 0, label(-1, 0): 0,
	} {
		if got := impl.QuotaOf(c, a); got != want {
			t.Errorf("QuotaOf %+v = %d, want %d", a, got, want)
		}
	}
	c.Quotas = nil
	for _, a := range allLabels() {
		want := int64(0)
		if len(plainNodesFor(c, a)) > 0 {
			want = 6
		}
		if got := impl.QuotaOf(c, a); got != want {
			t.Errorf("QuotaOf %+v without quotas = %d, want %d", a, got, want)
		}
	}
}

func TestPairAt(t *testing.T) {
	for _, c := range []impl.Config{plainConfig(), fullConfig()} {
		for i, p := range c.Pairs {
			if got := impl.PairAt(c, p.From, p.To); got != int64(i) {
				t.Errorf("PairAt of pair %d = %d", i, got)
			}
		}
		for _, a := range append(allLabels(), wrongLabels()...) {
			for _, b := range append(allLabels(), label(4, 0), label(-1, -1)) {
				wantPairAt(t, c, a, b)
				wantPairAt(t, c, b, a)
			}
		}
		c.Pairs = nil
		wantPairAt(t, c, label(2, 1), label(0, 0))
		wantPairAt(t, c, label(0, 0), label(0, 0))
	}
}

// wrongParts lists configurations that are right but for their pairs, their quotas or their Half.
func wrongParts() []impl.Config {
	low, middle, side, high := label(0, 0), label(1, 0), label(1, 1), label(2, 1)
	var wrong []impl.Config
	for _, pairs := range [][]impl.Pair{
		{pair(high, low, 0)}, {pair(high, low, 4)}, {pair(high, low, -1)}, {pair(low, high, 1)}, {pair(low, low, 1)}, {pair(high, low, 1), pair(high, low, 2)},
		{pair(high, label(0, 1), 1)}, {pair(label(3, 7), low, 1)}, {pair(high, label(-1, 0), 1)}, {pair(label(0, 8), low, 1)},
		{pair(high, low, 1), pair(high, side, 1), pair(high, middle, 1), pair(side, low, 1), pair(middle, low, 1)},
	} {
		wrong = append(wrong, withConfig(plainConfig(), func(c *impl.Config) { c.Pairs = pairs }))
	}
	for _, quotas := range [][]impl.Quota{
		{quota(low, 0)}, {quota(low, 10)}, {quota(low, -1)}, {quota(low, 5), quota(low, 5)}, {quota(high, 5), quota(low, 5)}, {quota(side, 5), quota(middle, 5)},
		{quota(label(0, 1), 5)}, {quota(label(3, 7), 5)}, {quota(label(4, 0), 5)},
	} {
		wrong = append(wrong, withConfig(plainConfig(), func(c *impl.Config) { c.Quotas = quotas }))
	}
	for _, half := range append(wrongNums(), -1, 0, 10) {
		wrong = append(wrong, withConfig(plainConfig(), func(c *impl.Config) { c.Half = half }))
	}
	return wrong
}

// wrongConfigs lists configurations that are wrong in one way each.
func wrongConfigs() []impl.Config {
	wrong := append(wrongParts(), impl.Config{}, impl.Config{Half: 1}, wide(9), wide(12))
	for _, clear := range wrongClears() {
		wrong = append(wrong, impl.Config{Nodes: clear, Half: 1})
	}
	return wrong
}

func TestWrongConfigsAreRefused(t *testing.T) {
	low, high := label(0, 0), label(2, 1)
	for _, c := range wrongConfigs() {
		if plainConfigRight(c) {
			t.Fatalf("not wrong: %+v", c)
		}
		wantConfig(t, false, c)
		if labels := impl.LabelsOf(c); len(labels) != 0 {
			t.Errorf("LabelsOf a wrong configuration = %+v", labels)
		}
		if text := impl.ConfigText(c); text != "" {
			t.Errorf("ConfigText of a wrong configuration = %q", text)
		}
		for _, a := range []impl.Label{low, high, label(1, 0), label(3, 7), label(4, 0)} {
			if nodes := impl.ClearFor(c, a); len(nodes) != 0 {
				t.Errorf("ClearFor %+v = %v", a, nodes)
			}
			if most := impl.QuotaOf(c, a); most != 0 {
				t.Errorf("QuotaOf %+v = %d", a, most)
			}
			if at := impl.PairAt(c, a, low); at != -1 {
				t.Errorf("PairAt %+v, %+v = %d", a, low, at)
			}
		}
	}
}

func TestAskedOfMixedConfigs(t *testing.T) {
	r := rand.New(rand.NewPCG(13, 2))
	for range 300 {
		c := mixedConfig(r)
		wantAsked(t, c)
		for range 2 {
			changed := cloneConfig(c)
			spoilConfig(r, &changed)
			wantAsked(t, changed)
		}
	}
	for _, c := range []impl.Config{plainConfig(), fullConfig(), wide(1), wide(8)} {
		wantAsked(t, c)
	}
}
