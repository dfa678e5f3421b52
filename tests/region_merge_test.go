package tests

import (
	"math"
	"math/rand/v2"
	"slices"
	"strings"
	"testing"

	"loop.example/g00658/impl"
)

func wantMerged(t *testing.T, want []impl.Frame, logs ...[]impl.Frame) {
	t.Helper()
	got := impl.Merge(logs)
	if !slices.Equal(got, want) || !slices.Equal(got, plainMerge(logs)) {
		t.Errorf("Merge of %d lists: %d frames, want %d", len(logs), len(got), len(want))
		for i := range min(len(got), len(want)) {
			if got[i] != want[i] {
				t.Errorf("frame %d is %d %q, want %d %q", i, got[i].Seq, short(got[i].Text), want[i].Seq, short(want[i].Text))
				return
			}
		}
	}
}

// TestMergeOfDistributedFrames is promise 31.
func TestMergeOfDistributedFrames(t *testing.T) {
	r := rand.New(rand.NewPCG(31, 1))
	for range 1500 {
		frames := risingFrames(r, r.IntN(60))
		logs := make([][]impl.Frame, 1+r.IntN(13))
		for _, f := range frames {
			to := r.IntN(len(logs))
			logs[to] = append(logs[to], f)
		}
		wantMerged(t, frames, logs...)
	}
}

// TestMergeOfEveryDistribution has five frames on three lists, in all ways.
func TestMergeOfEveryDistribution(t *testing.T) {
	frames := framesAt(0, 1, 5, 6, impl.MaxTime)
	for way := range 243 {
		logs, rest := make([][]impl.Frame, 3), way
		for _, f := range frames {
			logs[rest%3] = append(logs[rest%3], f)
			rest /= 3
		}
		wantMerged(t, frames, logs...)
	}
}

// TestMergeOfLogs reads the lists from logs, as they are on a disk.
func TestMergeOfLogs(t *testing.T) {
	r := rand.New(rand.NewPCG(31, 2))
	for range 300 {
		frames := risingFrames(r, r.IntN(60))
		texts := make([]string, 13)
		for _, f := range frames {
			texts[r.IntN(13)] += impl.FrameBytes(f)
		}
		var logs [][]impl.Frame
		for _, text := range texts {
			logs = append(logs, impl.LogRead(text+"rest").Frames)
		}
		wantMerged(t, frames, logs...)
	}
}

// TestMergeOfEqualNumbers has them in one list, in several lists, and in both.
func TestMergeOfEqualNumbers(t *testing.T) {
	a, b, c, d := frame(3, "a"), frame(3, "b"), frame(3, "c"), frame(3, "d")
	low, high := frame(2, "low"), frame(4, "high")
	wantMerged(t, []impl.Frame{b, a, c}, []impl.Frame{b, a, c})
	wantMerged(t, []impl.Frame{c, a, b}, []impl.Frame{c}, []impl.Frame{a}, []impl.Frame{b})
	wantMerged(t, []impl.Frame{d, b, a, c}, []impl.Frame{d, b}, nil, []impl.Frame{a, c})
	wantMerged(t, []impl.Frame{low, c, b, d, a, high}, []impl.Frame{c, b, high}, []impl.Frame{d}, []impl.Frame{low, a})
	wantMerged(t, []impl.Frame{a, a, a}, []impl.Frame{a, a}, []impl.Frame{a})
	// More of them than a sort might look at one after the other.
	var left, right, all []impl.Frame
	for i := range 400 {
		left, right = append(left, frame(7, textOf(i))), append(right, frame(7, textOf(400+i)))
	}
	all = append(append(all, left...), right...)
	wantMerged(t, all, left, right)
	wantMerged(t, slices.Concat([]impl.Frame{low}, all, []impl.Frame{frame(8, "")}), append([]impl.Frame{low}, left[:399]...), append([]impl.Frame{left[399]}, right[:399]...), []impl.Frame{right[399], frame(8, "")})
}

// TestMergeOfListsOutOfOrder has numbers that decrease within a list.
func TestMergeOfListsOutOfOrder(t *testing.T) {
	f := framesAt(0, 1, 2, 3, 4, 5)
	wantMerged(t, f, []impl.Frame{f[5], f[4], f[3], f[2], f[1], f[0]})
	wantMerged(t, f, []impl.Frame{f[5], f[0]}, []impl.Frame{f[4], f[1]}, []impl.Frame{f[2], f[3]})
	twice, again := frame(1, "twice"), frame(1, "again")
	wantMerged(t, []impl.Frame{f[0], twice, f[1], again, f[3]}, []impl.Frame{f[3], twice, f[0], f[1]}, []impl.Frame{again})
}

func TestMergeOfNothing(t *testing.T) {
	wantMerged(t, nil)
	for _, n := range []int{1, 2, 13} {
		wantMerged(t, nil, make([][]impl.Frame, n)...)
		wantMerged(t, nil, slices.Repeat([][]impl.Frame{{}}, n)...)
		f := framesAt(4)
		for at := range n {
			logs := make([][]impl.Frame, n)
			logs[at] = f
			wantMerged(t, f, logs...)
		}
	}
}

func TestMergeLimits(t *testing.T) {
	f := framesAt(9)
	wantMerged(t, slices.Repeat(f, 13), slices.Repeat([][]impl.Frame{f}, 13)...)
	for _, n := range []int{14, 15, 400, 401} {
		wantMerged(t, nil, slices.Repeat([][]impl.Frame{f}, n)...)
		wantMerged(t, nil, make([][]impl.Frame, n)...)
		wantMerged(t, nil, append(make([][]impl.Frame, n-1), f)...)
	}
	for n := 399; n <= 402; n++ {
		var long []impl.Frame
		for i := range n {
			long = append(long, frame(int64(i), ""))
		}
		for at := range 13 {
			logs := make([][]impl.Frame, 13)
			logs[at] = long
			if n <= impl.MaxList {
				wantMerged(t, long, logs...)
			} else {
				wantMerged(t, nil, logs...)
				logs[(at+1)%13] = f
				wantMerged(t, nil, logs...)
			}
		}
	}
	// As many frames as there may be.
	var logs [][]impl.Frame
	var all []impl.Frame
	for i := range int64(13 * 400) {
		all = append(all, frame(i, ""))
	}
	for at := range 13 {
		var l []impl.Frame
		for i := at; i < len(all); i += 13 {
			l = append(l, all[i])
		}
		logs = append(logs, l)
	}
	wantMerged(t, all, logs...)
}

// TestMergeOfAnyFrames has frames that are not valid, as no log has them: they are merged like all others.
func TestMergeOfAnyFrames(t *testing.T) {
	least, most := frame(math.MinInt64, "least"), frame(math.MaxInt64, "most")
	minus, over := frame(-1, "minus"), frame(impl.MaxTime+1, "over")
	long := frame(3, strings.Repeat("x", impl.MaxBytes+1))
	wantMerged(t, []impl.Frame{least, minus, long, over, most}, []impl.Frame{most, minus}, []impl.Frame{over, long}, []impl.Frame{least})
	r := rand.New(rand.NewPCG(31, 3))
	for range 300 {
		logs := make([][]impl.Frame, r.IntN(15))
		for i := range logs {
			for range r.IntN(6) {
				logs[i] = append(logs[i], frame([]int64{math.MinInt64, -1, 0, 1, 2, 3, impl.MaxTime, math.MaxInt64}[r.IntN(8)], mixedText(r, 3)))
			}
		}
		wantMerged(t, plainMerge(logs), logs...)
	}
}
