package tests

import (
	"math/rand/v2"
	"strings"
	"testing"

	"loop.example/g00658/impl"
)

// wantReplay compares a result; what is not an error has to be valid, too.
func wantReplay(t *testing.T, clear [][]impl.Label, log string, want impl.ReplayOut) {
	t.Helper()
	got := impl.Replay(clear, log)
	if got.Code != want.Code || got.Size != want.Size || !samePool(got.Pool, want.Pool) {
		t.Errorf("Replay(%d nodes, %d bytes): got %+v, want %+v", len(clear), len(log), got, want)
	}
	if right := impl.PoolRight(got.Pool); right != (got.Code == impl.OK) {
		t.Errorf("Replay: code %d, but PoolRight of the pool is %v", got.Code, right)
	}
}

// history is a log with the pool after each of its records, and the place where it ends; the first pool is a new one.
type history struct {
	clear [][]impl.Label
	log   string
	pools []impl.Pool
	ends  []int64
}

func newHistory(clear [][]impl.Label) *history {
	return &history{clear: clear, pools: []impl.Pool{impl.PoolNew(clear).Pool}, ends: []int64{0}}
}

func (h *history) last() impl.Pool {
	return h.pools[len(h.pools)-1]
}

// do executes a move without the log, and logs it if it is accepted.
func (h *history) do(m move) int64 {
	out := m.on(h.last())
	if out.Code == impl.OK {
		h.log += impl.PutText(impl.EntryBytes(entryFor(m)))
		h.pools = append(h.pools, out.Pool)
		h.ends = append(h.ends, int64(len(h.log)))
	}
	return out.Code
}

// after is the replay of the first n records.
func (h *history) after(n int) impl.ReplayOut {
	return impl.ReplayOut{Pool: h.pools[n], Size: h.ends[n]}
}

// whole counts the records that end within the first so many bytes.
func (h *history) whole(size int) int {
	n := 0
	for n+1 < len(h.ends) && h.ends[n+1] <= int64(size) {
		n++
	}
	return n
}

func submitMove(a impl.Label, need int64, long int64, prio int64) move {
	return move{kind: moveSubmit, label: a, nums: [3]int64{need, long, prio}}
}

func changeMove(a impl.Label, id int64, state int64) move {
	return move{kind: moveChange, label: a, nums: [3]int64{id, state}}
}

// shortHistory has all three kinds of records; its jobs wait, run, are displaced, held and done.
func shortHistory(t *testing.T) *history {
	t.Helper()
	low, high := label(0, 0), label(1, 0)
	h := newHistory(mixedNodes())
	for _, m := range []move{
		submitMove(high, 1, 4, 0), {}, submitMove(low, 3, 3, 9), {}, changeMove(high, 1, impl.JbHeld), {}, submitMove(low, 1, 20, 2),
		changeMove(low, 1, impl.JbDone), changeMove(high, 1, impl.JbWaits), {}, submitMove(label(2, 7), 1, 1, 1), {}, {},
	} {
		if code := h.do(m); code != impl.OK {
			t.Fatalf("%+v is refused with code %d", m, code)
		}
	}
	return h
}

// TestReplayExample is the example of chapter 8.
func TestReplayExample(t *testing.T) {
	low, high := label(0, 0), label(1, 0)
	clear := [][]impl.Label{{low, high}}
	one := record(submitOf(high, 1, 4, 2))
	two := one + record(advance())
	wantReplay(t, clear, two, impl.ReplayOut{Pool: poolOf(1, clear, onNodes(wish(high, 1, 1, 4, 2), 1, 0)), Size: int64(len(two))})
	wantReplay(t, clear, two[:len(two)-1], impl.ReplayOut{Pool: poolOf(0, clear, wish(high, 1, 1, 4, 2)), Size: int64(len(one))})
}

// TestReplayOfExecutions is promise 10: what was executed and logged is reproduced, wherever the log ends.
func TestReplayOfExecutions(t *testing.T) {
	r := rand.New(rand.NewPCG(10, 2))
	for range 150 {
		h := newHistory(mixedClear(r))
		for _, m := range mixedMoves(r, h.clear) {
			h.do(m)
		}
		for n, end := range h.ends {
			wantReplay(t, h.clear, h.log[:end], h.after(n))
		}
		for range 20 {
			cut := r.IntN(len(h.log) + 1)
			wantReplay(t, h.clear, h.log[:cut], h.after(h.whole(cut)))
		}
	}
}

// TestReplayOfEveryCut is the other half of promise 10: a truncated log is replayed up to its last complete record.
func TestReplayOfEveryCut(t *testing.T) {
	r := rand.New(rand.NewPCG(10, 3))
	histories := []*history{shortHistory(t)}
	for range 5 {
		h := newHistory(mixedClear(r))
		for _, m := range mixedMoves(r, h.clear) {
			h.do(m)
		}
		histories = append(histories, h)
	}
	for _, h := range histories {
		for cut := range len(h.log) + 1 {
			wantReplay(t, h.clear, h.log[:cut], h.after(h.whole(cut)))
		}
	}
}

func TestReplayOfTheEmptyLog(t *testing.T) {
	for n := 1; n <= 6; n++ {
		clear := alike(n, label(0, 0), label(2, 4))
		wantReplay(t, clear, "", impl.ReplayOut{Pool: impl.Pool{Clear: clear}})
	}
	wantReplay(t, nil, "", impl.ReplayOut{Code: impl.ErrForm})
}

func TestReplayOfWrongClearances(t *testing.T) {
	for _, clear := range wrongClears() {
		for _, log := range []string{"", "x", record(advance()), logOf(submitOf(label(0, 0), 1, 1, 0), advance())} {
			wantReplay(t, clear, log, impl.ReplayOut{Code: impl.ErrForm})
		}
	}
}

func TestReplaySizeLimits(t *testing.T) {
	low := label(0, 0)
	wantReplay(t, alike(impl.MaxList, low), "", impl.ReplayOut{Code: impl.ErrForm})
	over := strings.Repeat("x", impl.MaxBytes+1)
	for _, n := range []int{impl.MaxList + 1, 3 * impl.MaxList} {
		for _, log := range []string{"", record(advance()), over} {
			wantReplay(t, alike(n, low), log, impl.ReplayOut{Code: impl.ErrSize})
			wantReplay(t, make([][]impl.Label, n), log, impl.ReplayOut{Code: impl.ErrSize})
		}
	}
	for _, clear := range append(wrongClears(), alike(1, low)) {
		wantReplay(t, clear, over, impl.ReplayOut{Code: impl.ErrSize})
		wantReplay(t, clear, strings.Repeat(record(advance()), 1000), impl.ReplayOut{Code: impl.ErrSize})
	}
}

// TestReplayOfLongLogs has as many records as there is room for, and then bytes of one more.
func TestReplayOfLongLogs(t *testing.T) {
	low := label(0, 0)
	clear := alike(1, low)
	step := record(advance())
	n := impl.MaxBytes / len(step)
	want := impl.ReplayOut{Pool: poolOf(int64(n), clear), Size: int64(n * len(step))}
	wantReplay(t, clear, strings.Repeat(step, n), want)
	wantReplay(t, clear, strings.Repeat(step, n+1)[:impl.MaxBytes], want)
	wantReplay(t, clear, strings.Repeat(step, n+1)[:impl.MaxBytes+1], impl.ReplayOut{Code: impl.ErrSize})
	log := strings.Repeat(step, n-1) + record(submitOf(low, 1, 1, 0))
	wantReplay(t, clear, log, impl.ReplayOut{Pool: poolOf(int64(n)-1, clear, wish(low, 1, 1, 1, 0)), Size: int64(len(log))})
}

// TestReplayOfFullPools replays the longest log of a pool with six nodes, four labels for each of them, and as many jobs of each label as there may be.
func TestReplayOfFullPools(t *testing.T) {
	var clear [][]impl.Label
	var entries []impl.Entry
	for set := range int64(6) {
		clear = append(clear, []impl.Label{label(0, set), label(1, set), label(2, set), label(3, set)})
		for level := range int64(4) {
			for prio := range int64(3) {
				entries = append(entries, submitOf(label(level, set), 1, 20, prio))
			}
		}
	}
	log := logOf(entries...)
	for len(log)+len(record(advance())) <= impl.MaxBytes {
		log += record(advance())
	}
	want := plainReplay(clear, log)
	if len(want.Pool.Jobs) != 72 || want.Pool.Jobs[71].State != impl.JbDone || want.Size != int64(len(log)) {
		t.Errorf("%d jobs, size %d of %d", len(want.Pool.Jobs), want.Size, len(log))
	}
	wantReplay(t, clear, log, want)
}

// TestReplayOfBrokenRecords changes one byte, in any record: those before it are replayed.
func TestReplayOfBrokenRecords(t *testing.T) {
	h := shortHistory(t)
	for i := range len(h.log) {
		before := h.after(h.whole(i))
		for _, change := range []byte{1, 2, 4, 0x14, 0x16, 0x7f, 0x80, 0xff} {
			wantReplay(t, h.clear, changed(h.log, i, change), before)
		}
	}
}

// notRecords lists texts that are no records of valid entries.
func notRecords() []string {
	good := roughBytes(advance())
	texts := []string{
		"\x00", "\x01", "\x02", "\x80", "\x80\x00", "\xff\xff\xff\xff\xff\xff\xff\xff\xff\x01", lined("x"), lined("\x00\x00\x00\x00"), lined(""), lined(textOf(100)),
		good, "\x94\x00" + good, "\x12" + good, "\x16" + good, numText(-int64(len(good))) + good,
		numText(impl.MaxBytes) + good, numText(impl.MaxBytes+1) + good, numText(1<<62) + good, lined(good + "\x00"), lined(lined(good)), lined(good + good),
		lined(plainSeal("")), lined(plainSeal(numText(3, 0, 0, 0, 0))), lined(plainSeal(numText(3, 0, 0, 0, 0, 0, 0))), lined(plainSeal("\x06\x00\x00\x00\x00\x80\x00")),
	}
	for _, e := range wrongEntries() {
		texts = append(texts, record(e))
	}
	return texts
}

// refused lists valid entries that are refused after a history that ends with a full label 0:.
func refused() []impl.Entry {
	low, high := label(0, 0), label(1, 0)
	return []impl.Entry{
		submitOf(low, 1, 1, 0), submitOf(high, 0, 1, 0), submitOf(high, 7, 1, 0), submitOf(high, 1, 0, 0), submitOf(high, 1, 21, 0), submitOf(high, 1, 1, 10),
		submitOf(high, 3, 1, 0), submitOf(label(3, 7), 1, 1, 0), changeOf(low, 4, impl.JbDone), changeOf(low, 0, impl.JbDone), changeOf(high, 3, impl.JbDone),
		changeOf(low, 1, impl.JbHeld), changeOf(low, 1, impl.JbRuns), changeOf(low, 2, 0), changeOf(low, 2, 5), changeOf(label(3, 7), 1, impl.JbDone),
	}
}

// TestReplayStops puts something in front of each record of a log that cannot be applied there: all that is behind it is ignored.
func TestReplayStops(t *testing.T) {
	h := shortHistory(t)
	if code := h.do(submitMove(label(0, 0), 1, 1, 0)); code != impl.OK {
		t.Fatalf("the last submission is refused with code %d", code)
	}
	for _, text := range notRecords() {
		for _, n := range []int{0, 1, 6, len(h.ends) - 1} {
			wantReplay(t, h.clear, h.log[:h.ends[n]]+text+h.log[h.ends[n]:], h.after(n))
			wantReplay(t, h.clear, h.log[:h.ends[n]]+text, h.after(n))
		}
	}
	end := len(h.ends) - 1
	for _, e := range refused() {
		if code := impl.Act(h.last(), e).Code; code == impl.OK || !impl.EntryRight(e) {
			t.Errorf("%+v is not refused, or is not valid", e)
		}
		wantReplay(t, h.clear, h.log+record(e), h.after(end))
		wantReplay(t, h.clear, h.log+record(e)+record(advance()), h.after(end))
	}
}

// TestReplayOfOneRefusedEntry goes on with an entry that would be accepted.
func TestReplayOfOneRefusedEntry(t *testing.T) {
	low := label(0, 0)
	clear := alike(2, low)
	one := record(submitOf(low, 1, 4, 2))
	jobs := []impl.Job{wish(low, 1, 1, 4, 2), wish(low, 2, 1, 4, 2), wish(low, 3, 1, 4, 2)}
	for n := range 6 {
		most := min(n, 3)
		wantReplay(t, clear, strings.Repeat(one, n)+record(advance())[:5], impl.ReplayOut{Pool: poolOf(0, clear, jobs[:most]...), Size: int64(most * len(one))})
	}
	wantReplay(t, clear, strings.Repeat(one, 4)+record(advance()), impl.ReplayOut{Pool: poolOf(0, clear, jobs...), Size: int64(3 * len(one))})
}

func TestReplayOfMixedLogs(t *testing.T) {
	r := rand.New(rand.NewPCG(10, 4))
	texts := notRecords()
	for range 1000 {
		clear := mixedClear(r)
		log := ""
		for range r.IntN(30) {
			e := mixedEntry(r, clear)
			if r.IntN(4) > 0 && plainAct(plainReplay(clear, log).Pool, e).Code != impl.OK {
				e = advance()
			}
			log += record(e)
			if r.IntN(40) == 0 {
				log += texts[r.IntN(len(texts))]
			}
		}
		wantReplay(t, clear, log, plainReplay(clear, log))
		if len(log) > 0 {
			log = changed(log, r.IntN(len(log)), byte(1+r.IntN(255)))
			wantReplay(t, clear, log, plainReplay(clear, log))
		}
	}
}
