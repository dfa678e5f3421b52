package tests

import (
	"math/rand/v2"
	"reflect"
	"slices"
	"testing"

	"loop.example/g00658/impl"
)

// roomyConfig is a copy of a configuration, all slices of which, the empty ones too, have room behind their elements.
func roomyConfig(c impl.Config) impl.Config {
	copied := impl.Config{Half: c.Half, Nodes: make([][]impl.Label, 0, len(c.Nodes)+2)}
	for _, labels := range c.Nodes {
		copied.Nodes = append(copied.Nodes, append(make([]impl.Label, 0, len(labels)+2), labels...))
	}
	copied.Pairs = append(make([]impl.Pair, 0, len(c.Pairs)+2), c.Pairs...)
	copied.Quotas = append(make([]impl.Quota, 0, len(c.Quotas)+2), c.Quotas...)
	return copied
}

// stretchedConfig is the same configuration, with all slices reaching to the end of their room.
func stretchedConfig(c impl.Config) impl.Config {
	c.Nodes, c.Pairs, c.Quotas = slices.Clone(c.Nodes[:cap(c.Nodes)]), c.Pairs[:cap(c.Pairs)], c.Quotas[:cap(c.Quotas)]
	for n, labels := range c.Nodes {
		c.Nodes[n] = labels[:cap(labels)]
	}
	return c
}

// markConfig writes a different number into each place of a configuration's slices, also behind their ends, and reports whether each keeps its own.
func markConfig(c impl.Config) bool {
	whole := stretchedConfig(c)
	next := int64(1000)
	for _, labels := range whole.Nodes {
		for i := range labels {
			labels[i] = label(next, next)
			next++
		}
	}
	for i := range whole.Pairs {
		whole.Pairs[i] = pair(label(next, next), label(next, next), next)
		next++
	}
	for i := range whole.Quotas {
		whole.Quotas[i] = quota(label(next, next), next)
		next++
	}
	clear(c.Nodes[:cap(c.Nodes)])
	return keepsMarks(whole)
}

func keepsMarks(c impl.Config) bool {
	least := int64(1000)
	keeps := func(mark int64) bool {
		least++
		return mark == least-1
	}
	for _, a := range slices.Concat(c.Nodes...) {
		if !keeps(a.Level) {
			return false
		}
	}
	for _, p := range c.Pairs {
		if !keeps(p.Rate) {
			return false
		}
	}
	for _, q := range c.Quotas {
		if !keeps(q.Most) {
			return false
		}
	}
	return true
}

// wantConfigKept asks everything of a configuration and writes into what is returned: neither the configuration nor what is returned the next time may change.
func wantConfigKept(t *testing.T, c impl.Config, a impl.Label, b impl.Label) {
	t.Helper()
	arg := roomyConfig(c)
	before := cloneConfig(stretchedConfig(arg))
	right, text := impl.ConfigRight(arg), impl.ConfigText(arg)
	most, at := impl.QuotaOf(arg, a), impl.PairAt(arg, a, b)
	labels, nodes := impl.LabelsOf(arg), impl.ClearFor(arg, a)
	keptLabels, keptNodes := impl.LabelsOf(arg), impl.ClearFor(arg, a)
	if !reflect.DeepEqual(before, cloneConfig(stretchedConfig(arg))) {
		t.Errorf("%+v has been changed", before)
	}
	if right != plainConfigRight(c) || text != plainConfigText(c) || most != plainQuotaOf(c, a) || at != plainPairAt(c, a, b) {
		t.Errorf("another result for %+v with room behind its slices", c)
	}
	for i := range labels[:cap(labels)] {
		labels[:cap(labels)][i] = label(-5, -5)
	}
	for i := range nodes[:cap(nodes)] {
		nodes[:cap(nodes)][i] = -5
	}
	if slices.Contains(keptLabels, label(-5, -5)) || slices.Contains(keptNodes, -5) {
		t.Errorf("two results for %+v share memory", c)
	}
	if !reflect.DeepEqual(before, cloneConfig(stretchedConfig(arg))) {
		t.Errorf("a result for %+v shares memory with it", c)
	}
}

func TestConfigsAreKept(t *testing.T) {
	r := rand.New(rand.NewPCG(13, 8))
	configs := append(wrongConfigs(), plainConfig(), fullConfig(), wide(1), wide(8))
	for range 400 {
		c := mixedConfig(r)
		configs = append(configs, c, cloneConfig(c))
		spoilConfig(r, &configs[len(configs)-1])
	}
	for _, c := range configs {
		wantConfigKept(t, c, label(0, 0), label(3, 7))
		for _, p := range c.Pairs {
			wantConfigKept(t, c, p.From, p.To)
		}
		for _, a := range plainLabelsOf(c) {
			wantConfigKept(t, c, a, label(0, 0))
		}
	}
}

// TestReadConfigsShareNoMemory writes into a configuration that has been read: neither its other parts nor the next one may change.
func TestReadConfigsShareNoMemory(t *testing.T) {
	r := rand.New(rand.NewPCG(13, 9))
	configs := []impl.Config{plainConfig(), fullConfig(), wide(1), wide(8)}
	for range 400 {
		configs = append(configs, mixedConfig(r))
	}
	for _, c := range configs {
		text := roughText(c)
		first, second := impl.ConfigRead(text).Config, impl.ConfigRead(text).Config
		if !markConfig(first) {
			t.Errorf("%q: parts of the result share memory", text)
		}
		if !sameConfig(second, c) {
			t.Errorf("%q: two results share memory", text)
		}
		wantReadConfig(t, text, impl.ConfigOut{Config: c})
	}
}

// TestConfigsKeepNoState reads and writes others between two calls.
func TestConfigsKeepNoState(t *testing.T) {
	for _, text := range []string{"", "x", "half 4\nhalf 4\n", "node 0:\n", roughText(fullConfig()), roughText(wide(9))} {
		wantRecovered(t, plainConfig(), roughText(plainConfig()))
		impl.ConfigRead(text)
		impl.ConfigText(fullConfig())
		impl.LabelsOf(wide(8))
		wantRecovered(t, plainConfig(), roughText(plainConfig()))
	}
}
