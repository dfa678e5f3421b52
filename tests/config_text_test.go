package tests

import (
	"math/rand/v2"
	"slices"
	"strings"
	"testing"

	"loop.example/g00658/impl"
)

// wantRecovered is promise 13 for one configuration: its text is the given one, and is read back.
func wantRecovered(t *testing.T, c impl.Config, text string) {
	t.Helper()
	if got := impl.ConfigText(c); got != text {
		t.Errorf("ConfigText(%+v) = %q, want %q", c, got, text)
	}
	wantReadConfig(t, text, impl.ConfigOut{Config: c})
}

func wantReadConfig(t *testing.T, text string, want impl.ConfigOut) {
	t.Helper()
	got := impl.ConfigRead(text)
	if got.Code != want.Code || got.Line != want.Line || !sameConfig(got.Config, want.Config) {
		t.Errorf("ConfigRead(%q): got %+v, want %+v", short(text), got, want)
	}
}

// TestConfigExamples has the examples of chapter 10.
func TestConfigExamples(t *testing.T) {
	low, high := label(0, 0), label(1, 0)
	c := impl.Config{Nodes: [][]impl.Label{{low, high}}, Pairs: []impl.Pair{pair(high, low, 2)}, Quotas: []impl.Quota{quota(low, 3)}, Half: 4}
	wantRecovered(t, c, "node 0: 1:\npair 1: 0: 2\nquota 0: 3\nhalf 4\n")
	wantReadConfig(t, "node 0:\nhalf 0\n", impl.ConfigOut{Code: impl.ErrForm})
	wantReadConfig(t, "half 4\nnode 0:\n", impl.ConfigOut{Line: 1, Code: impl.ErrSyntax})
	if got := []int64{impl.QuotaOf(c, low), impl.QuotaOf(c, high), impl.QuotaOf(c, label(2, 0))}; !slices.Equal(got, []int64{3, 6, 0}) {
		t.Errorf("the quotas are %v", got)
	}
}

func TestConfigTexts(t *testing.T) {
	wantRecovered(t, plainConfig(), "node 0: 1: 2:a\nnode 0: 1:a\nnode 1:\npair 2:a 0: 1\npair 1:a 1: 2\npair 2:a 1: 3\nquota 0: 9\nquota 1:a 1\nquota 2:a 4\nhalf 4\n")
	wantRecovered(t, fullConfig(), "node 0: 0:a 1:ab 3:abc\nnode 0:b 1:b 1:bc 2:bc\nnode 0: 1:b 1:bc 3:abc\nnode 0:a 1:ab 3:abc\nnode 0:b 1:ab\nnode 3:abc\n"+
		"pair 3:abc 0: 3\npair 0:b 0:a 3\npair 0:a 0:b 3\npair 1:ab 2:bc 3\n"+
		"quota 0: 9\nquota 0:a 9\nquota 0:b 9\nquota 1:b 9\nquota 1:ab 9\nquota 1:bc 9\nquota 2:bc 9\nquota 3:abc 9\nhalf 9\n")
	wantRecovered(t, wide(1), "node 0:\nhalf 1\n")
	wantRecovered(t, wide(8), "node 0: 1: 2: 3:\nnode 0:a 1:a 2:a 3:a\nhalf 1\n")
	for n := 1; n <= 6; n++ {
		wantRecovered(t, impl.Config{Nodes: alike(n, label(0, 0), label(2, 5)), Half: 9}, strings.Repeat("node 0: 2:ac\n", n)+"half 9\n")
	}
}

// TestConfigTextOfEmptyParts has slices that are nil, and slices that are empty.
func TestConfigTextOfEmptyParts(t *testing.T) {
	low, high := label(0, 0), label(1, 0)
	c := impl.Config{Nodes: [][]impl.Label{{low, high}}, Half: 4}
	wantRecovered(t, c, "node 0: 1:\nhalf 4\n")
	c.Pairs, c.Quotas = []impl.Pair{}, []impl.Quota{}
	wantRecovered(t, c, "node 0: 1:\nhalf 4\n")
	c.Pairs = []impl.Pair{pair(high, low, 1)}
	wantRecovered(t, c, "node 0: 1:\npair 1: 0: 1\nhalf 4\n")
	c.Pairs, c.Quotas = nil, []impl.Quota{quota(high, 2)}
	wantRecovered(t, c, "node 0: 1:\nquota 1: 2\nhalf 4\n")
}

// TestConfigTextOfEveryNumber and of every label go through all that a text can have at one place.
func TestConfigTextOfEveryNumber(t *testing.T) {
	for n := int64(1); n <= 9; n++ {
		c := plainConfig()
		c.Half, c.Quotas[1].Most, c.Pairs[0].Rate = n, 10-n, 1+n%3
		wantRecovered(t, c, roughText(c))
	}
}

func TestConfigTextOfEveryLabel(t *testing.T) {
	for _, a := range allLabels() {
		wantRecovered(t, impl.Config{Nodes: [][]impl.Label{{a}}, Quotas: []impl.Quota{quota(a, 2)}, Half: 3}, "node "+textFor(a)+"\nquota "+textFor(a)+" 2\nhalf 3\n")
		for _, b := range allLabels() {
			c := impl.Config{Nodes: [][]impl.Label{{a}, {b}}, Pairs: []impl.Pair{pair(a, b, 2)}, Half: 3}
			if !plainBelow(a, b) {
				wantRecovered(t, c, roughText(c))
			}
		}
	}
}

// TestConfigIsRecovered is promise 13.
func TestConfigIsRecovered(t *testing.T) {
	r := rand.New(rand.NewPCG(13, 3))
	for range 3000 {
		c := mixedConfig(r)
		text := impl.ConfigText(c)
		wantRecovered(t, c, plainConfigText(c))
		if back := impl.ConfigText(impl.ConfigRead(text).Config); back != text {
			t.Errorf("%q becomes %q", text, back)
		}
	}
}

// TestWrongConfigsHaveNoText also writes down their texts without regard to that: those that are well formed give ErrForm.
func TestWrongConfigsHaveNoText(t *testing.T) {
	for _, c := range wrongConfigs() {
		if text := impl.ConfigText(c); text != "" {
			t.Errorf("ConfigText(%+v) = %q", c, short(text))
		}
		wantReadConfig(t, roughText(c), plainConfigRead(roughText(c)))
	}
	r := rand.New(rand.NewPCG(13, 4))
	count := map[int64]int{}
	for range 4000 {
		c := mixedConfig(r)
		spoilConfig(r, &c)
		if got, want := impl.ConfigText(c), plainConfigText(c); got != want {
			t.Errorf("ConfigText(%+v) = %q, want %q", c, got, want)
		}
		want := plainConfigRead(roughText(c))
		count[want.Code]++
		wantReadConfig(t, roughText(c), want)
	}
	if count[impl.OK] < 500 || count[impl.ErrForm] < 500 || len(count) != 2 {
		t.Errorf("the codes are too much alike: %v", count)
	}
}
