package tests

import (
	"math/rand/v2"
	"slices"
	"testing"

	"loop.example/g00658/impl"
)

// move is what a user does, or a step of time.
type move struct {
	kind  int
	label impl.Label
	nums  [3]int64
}

const (
	moveStep = iota
	moveSubmit
	moveChange
)

func (m move) on(p impl.Pool) impl.PoolOut {
	switch m.kind {
	case moveSubmit:
		return impl.Submit(p, m.label, m.nums[0], m.nums[1], m.nums[2])
	case moveChange:
		return impl.Change(p, m.label, m.nums[0], m.nums[1])
	}
	return impl.Advance(p)
}

func (m move) plain(p impl.Pool) impl.PoolOut {
	switch m.kind {
	case moveSubmit:
		return plainSubmit(p, m.label, m.nums[0], m.nums[1], m.nums[2])
	case moveChange:
		return plainChange(p, m.label, m.nums[0], m.nums[1])
	}
	return plainAdvance(p)
}

// mixedMoves makes moves of users with the labels of some nodes, some of which are refused.
func mixedMoves(r *rand.Rand, clear [][]impl.Label) []move {
	labels := slices.Concat(clear...)
	var moves []move
	for range 20 + r.IntN(50) {
		m := move{label: labels[r.IntN(len(labels))]}
		switch r.IntN(5) {
		case 0, 1:
			m.kind = moveSubmit
			m.nums = [3]int64{1 + int64(r.IntN(r.IntN(4)+1)), 1 + int64(r.IntN(r.IntN(20)+1)), int64(r.IntN(10))}
		case 2:
			m.kind = moveChange
			m.nums = [3]int64{1 + int64(r.IntN(3)), 1 + int64(r.IntN(4))}
		}
		moves = append(moves, m)
	}
	return moves
}

// TestMovesKeepPoolsRight is promise 6 over whole executions, and compares each result with the document's text.
func TestMovesKeepPoolsRight(t *testing.T) {
	r := rand.New(rand.NewPCG(6, 4))
	codes := map[int64]int{}
	for range 500 {
		clear := mixedClear(r)
		p := impl.PoolNew(clear).Pool
		for _, m := range mixedMoves(r, clear) {
			got := m.on(p)
			codes[got.Code]++
			wantOut(t, "a move", got, m.plain(p))
			if got.Code == impl.OK {
				p = got.Pool
			}
			wantPlan(t, p, plainPlanOf(p)...)
			wantView(t, plainView(p, m.label), p, m.label)
		}
	}
	for _, code := range []int64{impl.OK, impl.ErrForm, impl.ErrNone, impl.ErrLabel, impl.ErrFull, impl.ErrState} {
		if codes[code] < 50 {
			t.Errorf("the moves had code %d only %d times", code, codes[code])
		}
	}
}

// heard is all that the users below a label see and are told: results without pools, views, and slots.
type heard struct {
	ids   []int64
	codes []int64
	views []string
	slots [][]impl.Slot
}

// listen executes the moves and returns what the users below a label observe. Views are taken at every step of time and after every own move.
func listen(p impl.Pool, moves []move, a impl.Label) heard {
	var h heard
	for _, m := range moves {
		out := m.on(p)
		if out.Code == impl.OK {
			p = out.Pool
		}
		if m.kind == moveStep || plainBelow(m.label, a) {
			h.ids = append(h.ids, out.Id)
			h.codes = append(h.codes, out.Code)
			h.views = append(h.views, impl.View(p, a))
			h.slots = append(h.slots, slotsBelow(p, a))
		}
	}
	return h
}

func slotsBelow(p impl.Pool, a impl.Label) []impl.Slot {
	return slices.DeleteFunc(impl.PlanOf(p), func(s impl.Slot) bool { return !plainBelow(s.Label, a) })
}

func wantHeard(t *testing.T, a impl.Label, got heard, want heard) {
	t.Helper()
	if !slices.Equal(got.ids, want.ids) || !slices.Equal(got.codes, want.codes) {
		t.Errorf("users below %+v receive other results", a)
	}
	if !slices.Equal(got.views, want.views) {
		t.Errorf("users below %+v see other views", a)
	}
	if !slices.EqualFunc(got.slots, want.slots, sameSlots) {
		t.Errorf("users below %+v see other slots", a)
	}
}

// onlyBelow removes all moves of the users whose labels are not dominated.
func onlyBelow(moves []move, a impl.Label) []move {
	return slices.DeleteFunc(slices.Clone(moves), func(m move) bool { return m.kind != moveStep && !plainBelow(m.label, a) })
}

// mixedOthers puts moves of the users whose labels are not dominated between those of the others.
func mixedOthers(r *rand.Rand, moves []move, clear [][]impl.Label, a impl.Label) []move {
	for _, m := range mixedMoves(r, clear) {
		if m.kind != moveStep && !plainBelow(m.label, a) {
			moves = slices.Insert(moves, r.IntN(len(moves)+1), m)
		}
	}
	return moves
}

// TestOthersAreNotObserved is promise 8: for every label, whatever the users do whose labels are not dominated by it.
func TestOthersAreNotObserved(t *testing.T) {
	r := rand.New(rand.NewPCG(8, 1))
	removed := 0
	for range 120 {
		clear := mixedClear(r)
		p := impl.PoolNew(clear).Pool
		moves := mixedMoves(r, clear)
		for _, a := range append(slices.Concat(clear...), label(0, 0), label(3, 7), label(1, 2)) {
			own := onlyBelow(moves, a)
			removed += len(moves) - len(own)
			want := listen(p, own, a)
			wantHeard(t, a, listen(p, moves, a), want)
			wantHeard(t, a, listen(p, mixedOthers(r, own, clear, a), a), want)
		}
	}
	if removed < 3000 {
		t.Errorf("only %d moves were not to be observed", removed)
	}
}

// TestOtherJobsAreNotObserved is promise 8 from pools in all kinds of states on: their other jobs may as well not be there.
func TestOtherJobsAreNotObserved(t *testing.T) {
	r := rand.New(rand.NewPCG(8, 2))
	for range 120 {
		p := mixedPool(r)
		moves := mixedMoves(r, p.Clear)
		for _, a := range append(slices.Concat(p.Clear...), label(0, 0), label(2, 3)) {
			alone := clonePool(p)
			alone.Jobs = slices.DeleteFunc(alone.Jobs, func(j impl.Job) bool { return !plainBelow(j.Label, a) })
			own := onlyBelow(moves, a)
			wantHeard(t, a, listen(p, moves, a), listen(alone, own, a))
			if impl.View(p, a) != impl.View(alone, a) || !sameSlots(slotsBelow(p, a), slotsBelow(alone, a)) {
				t.Errorf("users below %+v see other jobs", a)
			}
		}
	}
}

// TestLowerObservesNothing is the middle of promise 12, on one case: the lower job runs the same with a higher one before it, beside it, and without it.
func TestLowerObservesNothing(t *testing.T) {
	low, high := label(0, 0), label(1, 0)
	p := impl.PoolNew([][]impl.Label{{low, high}, {low}}).Pool
	step := move{}
	lower := []move{{kind: moveSubmit, label: low, nums: [3]int64{2, 3, 0}}, step, step, {kind: moveSubmit, label: low, nums: [3]int64{1, 1, 9}}, step, step, step}
	higher := move{kind: moveSubmit, label: high, nums: [3]int64{1, 20, 9}}
	want := listen(p, slices.Concat([]move{step, step}, lower), low)
	for at := range 10 {
		moves := slices.Insert(slices.Concat([]move{step, step}, lower), at, higher, move{kind: moveChange, label: high, nums: [3]int64{1, impl.JbHeld}}, move{kind: moveChange, label: high, nums: [3]int64{1, impl.JbWaits}})
		wantHeard(t, low, listen(p, moves, low), want)
	}
}
