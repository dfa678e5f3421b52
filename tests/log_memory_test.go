package tests

import (
	"math/rand/v2"
	"slices"
	"testing"

	"loop.example/g00658/impl"
)

func TestActSharesNoMemory(t *testing.T) {
	r := rand.New(rand.NewPCG(10, 5))
	for range 300 {
		p := mixedPool(r)
		for range 6 {
			e := mixedEntry(r, p.Clear)
			wantApart(t, "Act", p, func(p impl.Pool) impl.Pool { return impl.Act(p, e).Pool })
		}
		wantApart(t, "Act of an advance", p, func(p impl.Pool) impl.Pool { return impl.Act(p, advance()).Pool })
		wantApart(t, "Act of a wrong entry", p, func(p impl.Pool) impl.Pool { return impl.Act(p, impl.Entry{}).Pool })
	}
}

func TestReplaySharesNoMemory(t *testing.T) {
	r := rand.New(rand.NewPCG(10, 6))
	for range 200 {
		h := newHistory(mixedClear(r))
		for _, m := range mixedMoves(r, h.clear) {
			h.do(m)
		}
		for _, log := range []string{"", h.log, h.log[:len(h.log)/2], "x"} {
			wantApart(t, "Replay", poolOf(0, h.clear), func(p impl.Pool) impl.Pool { return impl.Replay(p.Clear, log).Pool })
		}
	}
}

// TestWrongLogArgumentsAreKept looks at arguments that are refused.
func TestWrongLogArgumentsAreKept(t *testing.T) {
	low := label(0, 0)
	pools := slices.Clone(wrongPools())
	pools = append(pools, poolOf(0, alike(impl.MaxList+1, low)))
	for _, p := range pools {
		for _, e := range []impl.Entry{submitOf(low, 1, 1, 0), changeOf(low, 1, impl.JbDone), advance(), {}} {
			wantApart(t, "Act on a wrong pool", p, func(p impl.Pool) impl.Pool { return impl.Act(p, e).Pool })
		}
		wantApart(t, "Replay", p, func(p impl.Pool) impl.Pool { return impl.Replay(p.Clear, record(advance())).Pool })
	}
}
