package tests

import (
	"math/rand/v2"
	"slices"
	"testing"

	"loop.example/g00658/impl"
)

func wantConfig(t *testing.T, want bool, c impl.Config) {
	t.Helper()
	if got := impl.ConfigRight(c); got != want {
		t.Errorf("ConfigRight(%d nodes, %+v, pairs %+v, quotas %+v, half %d) = %v", len(c.Nodes), c.Nodes[:min(len(c.Nodes), 7)], c.Pairs[:min(len(c.Pairs), 5)], c.Quotas[:min(len(c.Quotas), 9)], c.Half, got)
	}
}

// wantPairs and wantQuotas put parts into a right configuration.
func wantPairs(t *testing.T, want bool, pairs ...impl.Pair) {
	t.Helper()
	wantConfig(t, want, withConfig(plainConfig(), func(c *impl.Config) { c.Pairs = pairs }))
}

func wantQuotas(t *testing.T, want bool, quotas ...impl.Quota) {
	t.Helper()
	wantConfig(t, want, withConfig(plainConfig(), func(c *impl.Config) { c.Quotas = quotas }))
}

func TestConfigRightOfNodes(t *testing.T) {
	low, high := label(0, 0), label(1, 0)
	for n := range 9 {
		wantConfig(t, n >= 1 && n <= 6, impl.Config{Nodes: alike(n, low, high), Half: 1})
		wantConfig(t, n >= 1 && n <= 6, impl.Config{Nodes: alike(n, high), Half: 9})
	}
	wantConfig(t, false, impl.Config{})
	wantConfig(t, false, impl.Config{Nodes: [][]impl.Label{}, Half: 1})
	for size := 1; size <= 7; size++ {
		wantConfig(t, size <= 4, impl.Config{Nodes: [][]impl.Label{{low}, longChain()[:size]}, Half: 3})
	}
	// A clearance need not have anything in common with another one.
	wantConfig(t, true, impl.Config{Nodes: [][]impl.Label{{label(3, 7)}, {label(0, 1)}, {label(0, 2), label(2, 2)}}, Half: 3})
	for _, clear := range wrongClears() {
		wantConfig(t, false, impl.Config{Nodes: clear, Half: 1})
	}
}

func TestConfigRightOfChains(t *testing.T) {
	for _, a := range allLabels() {
		wantConfig(t, true, impl.Config{Nodes: [][]impl.Label{{a}}, Half: 1})
		for _, b := range allLabels() {
			wantConfig(t, a != b && plainBelow(a, b), impl.Config{Nodes: [][]impl.Label{{a, b}}, Half: 1})
			wantConfig(t, true, impl.Config{Nodes: [][]impl.Label{{a}, {b}}, Half: 1})
		}
	}
}

func TestConfigRightCountsLabels(t *testing.T) {
	for n := 1; n <= 12; n++ {
		wantConfig(t, n <= 8, wide(n))
	}
	// Each label counts once, however many nodes are cleared for it.
	wantConfig(t, true, withConfig(wide(8), func(c *impl.Config) { c.Nodes = slices.Concat(c.Nodes, c.Nodes, c.Nodes) }))
	wantConfig(t, true, withConfig(wide(8), func(c *impl.Config) { c.Nodes = append(c.Nodes, []impl.Label{label(0, 1), label(2, 1)}) }))
	for _, a := range allLabels() {
		known := slices.Contains(plainLabelsOf(wide(8)), a)
		wantConfig(t, known, withConfig(wide(8), func(c *impl.Config) { c.Nodes = append(c.Nodes, []impl.Label{a}) }))
		wantConfig(t, true, withConfig(wide(7), func(c *impl.Config) { c.Nodes = append(c.Nodes, []impl.Label{a}) }))
	}
	// More labels than there may be do not become right by having quotas.
	wantConfig(t, false, withConfig(wide(9), func(c *impl.Config) { c.Quotas = []impl.Quota{quota(label(0, 0), 1)} }))
}

func TestConfigRightCountsPairs(t *testing.T) {
	low, middle, side, high := label(0, 0), label(1, 0), label(1, 1), label(2, 1)
	all := []impl.Pair{pair(high, low, 1), pair(high, side, 2), pair(high, middle, 3), pair(side, low, 1), pair(side, middle, 2), pair(middle, low, 3)}
	for from := range all {
		for to := from; to <= len(all); to++ {
			wantPairs(t, to-from <= 4, all[from:to]...)
		}
	}
	slices.Reverse(all)
	wantPairs(t, true, all[:4]...)
	wantPairs(t, false, all[:5]...)
	wantPairs(t, true)
	for _, n := range []int{2, 4, 5, impl.MaxList, impl.MaxList + 1} {
		wantPairs(t, false, slices.Repeat(all[:1], n)...)
	}
}

func TestConfigRightOfEqualPairs(t *testing.T) {
	low, middle, side, high := label(0, 0), label(1, 0), label(1, 1), label(2, 1)
	first := pair(high, middle, 2)
	for rate := int64(1); rate <= 3; rate++ {
		wantPairs(t, false, first, pair(high, middle, rate))
		wantPairs(t, false, first, pair(high, low, 1), pair(high, middle, rate))
		wantPairs(t, false, pair(high, low, 1), first, pair(side, low, 1), pair(high, middle, rate))
		wantPairs(t, true, first, pair(high, low, rate))
		wantPairs(t, true, first, pair(high, side, rate))
		wantPairs(t, true, first, pair(side, middle, rate))
	}
	// Two labels that cannot be compared may be joined in both directions.
	c := impl.Config{Nodes: [][]impl.Label{{label(0, 1)}, {label(0, 2)}}, Half: 1}
	there, back := pair(label(0, 1), label(0, 2), 1), pair(label(0, 2), label(0, 1), 1)
	wantConfig(t, true, withConfig(c, func(c *impl.Config) { c.Pairs = []impl.Pair{there, back} }))
	wantConfig(t, false, withConfig(c, func(c *impl.Config) { c.Pairs = []impl.Pair{there, back, there} }))
}

// TestConfigRightOfEveryPair tries all pairs of valid labels, in a configuration that has them and in one that does not.
func TestConfigRightOfEveryPair(t *testing.T) {
	for _, a := range allLabels() {
		for _, b := range allLabels() {
			c := impl.Config{Nodes: [][]impl.Label{{a}, {b}}, Pairs: []impl.Pair{pair(a, b, 1)}, Half: 1}
			wantConfig(t, !plainBelow(a, b), c)
			known := slices.Contains(plainLabelsOf(plainConfig()), a) && slices.Contains(plainLabelsOf(plainConfig()), b)
			wantPairs(t, known && !plainBelow(a, b), pair(a, b, 1))
		}
	}
	low, high := label(0, 0), label(2, 1)
	for _, a := range wrongLabels() {
		for _, p := range []impl.Pair{pair(a, low, 1), pair(high, a, 1), pair(a, a, 1), pair(a, label(-1, -1), 1)} {
			wantPairs(t, false, p)
			wantPairs(t, false, pair(high, low, 1), p)
		}
	}
}

func TestConfigRightOfRates(t *testing.T) {
	high, low, middle := label(2, 1), label(0, 0), label(1, 0)
	for _, rate := range append(wrongNums(), -3, -2, -1, 0, 1, 2, 3, 4, 5, 9, 10, 257, 258) {
		right := rate >= 1 && rate <= 3
		wantPairs(t, right, pair(high, low, rate))
		wantPairs(t, right, pair(high, low, rate), pair(high, middle, 1))
		wantPairs(t, right, pair(high, middle, 1), pair(high, low, rate))
	}
}

func TestConfigRightOfQuotaOrder(t *testing.T) {
	// The label 0:b has a greater set than 1:, but a lesser level.
	labels := []impl.Label{label(0, 0), label(0, 2), label(1, 0), label(1, 1)}
	base := impl.Config{Nodes: [][]impl.Label{{label(0, 0), label(1, 0), label(1, 1)}, {label(0, 2)}}, Half: 2}
	for picks := range 5 * 5 * 5 * 5 {
		var quotas []impl.Quota
		right := true
		last := -1
		for n := picks; n > 0; n /= 5 {
			at := n%5 - 1
			if at >= 0 {
				quotas = append(quotas, quota(labels[at], 1+int64(at)))
				right = right && at > last
				last = at
			}
		}
		wantConfig(t, right, withConfig(base, func(c *impl.Config) { c.Quotas = quotas }))
	}
}

func TestConfigRightOfQuotaLabels(t *testing.T) {
	low, high := label(0, 0), label(2, 1)
	for _, a := range allLabels() {
		known := slices.Contains(plainLabelsOf(plainConfig()), a)
		wantQuotas(t, known, quota(a, 5))
		wantQuotas(t, known && a != low, quota(low, 5), quota(a, 5))
		wantQuotas(t, known && a != high, quota(a, 5), quota(high, 5))
	}
	for _, a := range wrongLabels() {
		wantQuotas(t, false, quota(a, 5))
		wantQuotas(t, false, quota(a, 5), quota(low, 5))
		wantQuotas(t, false, quota(low, 5), quota(a, 5))
	}
	for _, n := range []int{2, 8, 9, impl.MaxList, impl.MaxList + 1} {
		wantQuotas(t, false, slices.Repeat([]impl.Quota{quota(low, 5)}, n)...)
	}
	wantConfig(t, true, fullConfig())
	for i, q := range fullConfig().Quotas {
		wantConfig(t, false, withConfig(fullConfig(), func(c *impl.Config) { c.Quotas = slices.Insert(c.Quotas, i, q) }))
		wantConfig(t, true, withConfig(fullConfig(), func(c *impl.Config) { c.Quotas = slices.Delete(c.Quotas, i, i+1) }))
	}
}

func TestConfigRightOfMost(t *testing.T) {
	low, high := label(0, 0), label(2, 1)
	for _, most := range append(wrongNums(), -9, -1, 0, 1, 2, 6, 8, 9, 10, 11, 257) {
		right := most >= 1 && most <= 9
		wantQuotas(t, right, quota(low, most))
		wantQuotas(t, right, quota(low, most), quota(high, 1))
		wantQuotas(t, right, quota(low, 1), quota(high, most))
	}
}

func TestConfigRightOfHalf(t *testing.T) {
	for _, half := range append(wrongNums(), -9, -2, -1, 0, 1, 2, 5, 8, 9, 10, 11, 257) {
		right := half >= 1 && half <= 9
		wantConfig(t, right, withConfig(plainConfig(), func(c *impl.Config) { c.Half = half }))
		wantConfig(t, right, impl.Config{Nodes: alike(1, label(0, 0)), Half: half})
	}
}

// TestConfigRightOfNoParts has no pairs and no quotas, as nil and as empty slices.
func TestConfigRightOfNoParts(t *testing.T) {
	c := impl.Config{Nodes: alike(2, label(0, 0), label(1, 0)), Half: 4}
	wantConfig(t, true, c)
	c.Pairs, c.Quotas = []impl.Pair{}, []impl.Quota{}
	wantConfig(t, true, c)
	for _, labels := range [][]impl.Label{nil, {}} {
		wantConfig(t, false, withConfig(c, func(c *impl.Config) { c.Nodes[0] = labels }))
		wantConfig(t, false, withConfig(c, func(c *impl.Config) { c.Nodes[1] = labels }))
	}
	c.Nodes = [][]impl.Label{}
	wantConfig(t, false, c)
	c.Nodes = nil
	wantConfig(t, false, c)
}

func TestConfigRightOfMixedConfigs(t *testing.T) {
	r := rand.New(rand.NewPCG(13, 1))
	count := map[bool]int{}
	for range 3000 {
		c := mixedConfig(r)
		wantConfig(t, true, c)
		for range 4 {
			changed := cloneConfig(c)
			spoilConfig(r, &changed)
			right := plainConfigRight(changed)
			count[right]++
			wantConfig(t, right, changed)
		}
	}
	if count[true] < 1000 || count[false] < 1000 {
		t.Errorf("the changed configurations are too much alike: %v", count)
	}
}
