package tests

import (
	"math/rand/v2"
	"regexp"
	"slices"
	"strconv"
	"strings"

	"loop.example/g00658/impl"
)

// This file has what the document says of configurations, written down step by step, and the configurations that it is tried on.

func pair(from impl.Label, to impl.Label, rate int64) impl.Pair {
	return impl.Pair{From: from, To: to, Rate: rate}
}

func quota(a impl.Label, most int64) impl.Quota {
	return impl.Quota{Label: a, Most: most}
}

func cloneConfig(c impl.Config) impl.Config {
	c.Nodes, c.Pairs, c.Quotas = slices.Clone(c.Nodes), slices.Clone(c.Pairs), slices.Clone(c.Quotas)
	for i, labels := range c.Nodes {
		c.Nodes[i] = slices.Clone(labels)
	}
	return c
}

// withConfig returns a copy of a configuration that has been changed.
func withConfig(c impl.Config, change func(c *impl.Config)) impl.Config {
	c = cloneConfig(c)
	change(&c)
	return c
}

// sameConfig takes nil and an empty slice as equal.
func sameConfig(a impl.Config, b impl.Config) bool {
	return slices.EqualFunc(a.Nodes, b.Nodes, slices.Equal) && slices.Equal(a.Pairs, b.Pairs) && slices.Equal(a.Quotas, b.Quotas) && a.Half == b.Half
}

// plainLabelsOf looks for each of the valid labels, which allLabels has in label order.
func plainLabelsOf(c impl.Config) []impl.Label {
	var labels []impl.Label
	for _, a := range allLabels() {
		if len(plainNodesFor(c, a)) > 0 {
			labels = append(labels, a)
		}
	}
	return labels
}

func plainNodesFor(c impl.Config, a impl.Label) []int64 {
	var nodes []int64
	for n, labels := range c.Nodes {
		if slices.Contains(labels, a) {
			nodes = append(nodes, int64(n))
		}
	}
	return nodes
}

func plainConfigRight(c impl.Config) bool {
	if len(c.Nodes) < 1 || len(c.Nodes) > 6 || c.Half < 1 || c.Half > 9 {
		return false
	}
	for _, labels := range c.Nodes {
		if !plainChain(labels) {
			return false
		}
	}
	return len(plainLabelsOf(c)) <= 8 && plainConfigPairs(c) && plainConfigQuotas(c)
}

func plainConfigPairs(c impl.Config) bool {
	labels := plainLabelsOf(c)
	ends := map[[2]impl.Label]bool{}
	for _, p := range c.Pairs {
		if !slices.Contains(labels, p.From) || !slices.Contains(labels, p.To) || plainBelow(p.From, p.To) || p.Rate < 1 || p.Rate > 3 {
			return false
		}
		ends[[2]impl.Label{p.From, p.To}] = true
	}
	return len(ends) == len(c.Pairs) && len(c.Pairs) <= 4
}

// plainConfigQuotas strikes the labels out that can no longer follow.
func plainConfigQuotas(c impl.Config) bool {
	labels := plainLabelsOf(c)
	for _, q := range c.Quotas {
		at := slices.Index(labels, q.Label)
		if at < 0 || q.Most < 1 || q.Most > 9 {
			return false
		}
		labels = labels[at+1:]
	}
	return true
}

func plainQuotaOf(c impl.Config, a impl.Label) int64 {
	if !plainConfigRight(c) || len(plainNodesFor(c, a)) == 0 {
		return 0
	}
	most := int64(6)
	for _, q := range c.Quotas {
		if q.Label == a {
			most = q.Most
		}
	}
	return most
}

func plainPairAt(c impl.Config, from impl.Label, to impl.Label) int64 {
	for i, p := range c.Pairs {
		if p.From == from && p.To == to && plainConfigRight(c) {
			return int64(i)
		}
	}
	return -1
}

// roughText returns the text of any configuration with valid labels.
func roughText(c impl.Config) string {
	text := ""
	for _, labels := range c.Nodes {
		text += "node"
		for _, a := range labels {
			text += " " + textFor(a)
		}
		text += "\n"
	}
	for _, p := range c.Pairs {
		text += "pair " + textFor(p.From) + " " + textFor(p.To) + " " + strconv.FormatInt(p.Rate, 10) + "\n"
	}
	for _, q := range c.Quotas {
		text += "quota " + textFor(q.Label) + " " + strconv.FormatInt(q.Most, 10) + "\n"
	}
	return text + "half " + strconv.FormatInt(c.Half, 10) + "\n"
}

func plainConfigText(c impl.Config) string {
	if !plainConfigRight(c) {
		return ""
	}
	return roughText(c)
}

// configForm has a whole line of every form.
var configForm = regexp.MustCompile(strings.ReplaceAll(`\A(node( LABEL){1,4}|pair LABEL LABEL [0-9]|quota LABEL [0-9]|half [0-9])\n\z`, "LABEL", "[0-3]:a?b?c?"))

// mayFollow reports whether a line that begins with the word next may stand behind one that begins with the word last.
func mayFollow(last string, next string) bool {
	words := []string{"", "node", "pair", "quota", "half"}
	return last != "half" && slices.Index(words, last) <= slices.Index(words, next)
}

// plainConfigFault returns the index of the first faulty line, or -1.
func plainConfigFault(text string) int64 {
	last := ""
	for i, line := range strings.SplitAfter(text, "\n") {
		// Behind the last line feed there is nothing, which is not a line.
		if line == "" {
			continue
		}
		word, _, _ := strings.Cut(line, " ")
		if !configForm.MatchString(line) || !mayFollow(last, word) {
			return int64(i)
		}
		last = word
	}
	return -1
}

func plainConfigRead(text string) impl.ConfigOut {
	if len(text) > 8000 {
		return impl.ConfigOut{Code: impl.ErrSize}
	}
	if line := plainConfigFault(text); line >= 0 {
		return impl.ConfigOut{Line: line, Code: impl.ErrSyntax}
	}
	var c impl.Config
	for line := range strings.Lines(text) {
		takeLine(&c, strings.Fields(line))
	}
	if !plainConfigRight(c) {
		return impl.ConfigOut{Code: impl.ErrForm}
	}
	return impl.ConfigOut{Config: c}
}

func takeLine(c *impl.Config, words []string) {
	var labels []impl.Label
	for _, word := range words[1:] {
		if a, ok := labelTexts()[word]; ok {
			labels = append(labels, a)
		}
	}
	n, _ := strconv.ParseInt(words[len(words)-1], 10, 64)
	switch words[0] {
	case "node":
		c.Nodes = append(c.Nodes, labels)
	case "pair":
		c.Pairs = append(c.Pairs, pair(labels[0], labels[1], n))
	case "quota":
		c.Quotas = append(c.Quotas, quota(labels[0], n))
	case "half":
		c.Half = n
	}
}

// plainConfig has three nodes and a part of each kind.
func plainConfig() impl.Config {
	low, middle, side, high := label(0, 0), label(1, 0), label(1, 1), label(2, 1)
	return impl.Config{
		Nodes:  [][]impl.Label{{low, middle, high}, {low, side}, {middle}},
		Pairs:  []impl.Pair{pair(high, low, 1), pair(side, middle, 2), pair(high, middle, 3)},
		Quotas: []impl.Quota{quota(low, 9), quota(side, 1), quota(high, 4)},
		Half:   4,
	}
}

// fullConfig has as much of everything as there may be.
func fullConfig() impl.Config {
	c := impl.Config{
		Nodes: [][]impl.Label{
			{label(0, 0), label(0, 1), label(1, 3), label(3, 7)}, {label(0, 2), label(1, 2), label(1, 6), label(2, 6)},
			{label(0, 0), label(1, 2), label(1, 6), label(3, 7)}, {label(0, 1), label(1, 3), label(3, 7)}, {label(0, 2), label(1, 3)}, {label(3, 7)},
		},
		Pairs: []impl.Pair{pair(label(3, 7), label(0, 0), 3), pair(label(0, 2), label(0, 1), 3), pair(label(0, 1), label(0, 2), 3), pair(label(1, 3), label(2, 6), 3)},
		Half:  9,
	}
	for _, a := range plainLabelsOf(c) {
		c.Quotas = append(c.Quotas, quota(a, 9))
	}
	return c
}

// wide has so many labels on three nodes, up to twelve of them.
func wide(n int) impl.Config {
	labels := []impl.Label{
		label(0, 0), label(1, 0), label(2, 0), label(3, 0), label(0, 1), label(1, 1), label(2, 1), label(3, 1), label(0, 2), label(1, 2), label(2, 2), label(3, 2),
	}
	c := impl.Config{Half: 1}
	for part := range slices.Chunk(labels[:n], 4) {
		c.Nodes = append(c.Nodes, part)
	}
	return cloneConfig(c)
}

// mixedConfig makes a valid configuration.
func mixedConfig(r *rand.Rand) impl.Config {
	c := impl.Config{Nodes: mixedClear(r), Half: 1 + int64(r.IntN(9))}
	for len(plainLabelsOf(c)) > 8 {
		c.Nodes = c.Nodes[1:]
	}
	labels := plainLabelsOf(c)
	for range r.IntN(9) {
		p := pair(labels[r.IntN(len(labels))], labels[r.IntN(len(labels))], 1+int64(r.IntN(3)))
		if len(c.Pairs) < 4 && !plainBelow(p.From, p.To) && plainPairAt(c, p.From, p.To) < 0 {
			c.Pairs = append(c.Pairs, p)
		}
	}
	for _, a := range labels {
		if r.IntN(2) == 0 {
			c.Quotas = append(c.Quotas, quota(a, 1+int64(r.IntN(9))))
		}
	}
	return c
}

// spoilConfig changes one thing of a configuration, which may stay valid; its labels do, and its numbers keep one digit.
func spoilConfig(r *rand.Rand, c *impl.Config) {
	next := allLabels()[r.IntN(32)]
	if r.IntN(2) == 0 {
		labels := c.Nodes[r.IntN(len(c.Nodes))]
		next = labels[r.IntN(len(labels))]
	}
	switch r.IntN(8) {
	case 0:
		labels := c.Nodes[r.IntN(len(c.Nodes))]
		labels[r.IntN(len(labels))] = next
	case 1:
		c.Nodes = append(c.Nodes, []impl.Label{next})
	case 2:
		c.Half = int64(r.IntN(10))
	case 3:
		c.Pairs = slices.Insert(c.Pairs, r.IntN(len(c.Pairs)+1), pair(next, plainLabelsOf(*c)[0], int64(r.IntN(5))))
	case 4:
		c.Quotas = slices.Insert(c.Quotas, r.IntN(len(c.Quotas)+1), quota(next, int64(r.IntN(10))))
	case 5, 6:
		if len(c.Pairs) > 0 {
			spoilPair(r, &c.Pairs[r.IntN(len(c.Pairs))], next)
		}
	case 7:
		if len(c.Quotas) > 0 {
			c.Quotas[r.IntN(len(c.Quotas))] = quota(next, int64(r.IntN(10)))
		}
	}
}

func spoilPair(r *rand.Rand, p *impl.Pair, a impl.Label) {
	switch r.IntN(4) {
	case 0:
		p.From = a
	case 1:
		p.To = a
	case 2:
		p.Rate = int64(r.IntN(10))
	case 3:
		p.From, p.To = p.To, p.From
	}
}
