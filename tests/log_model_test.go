package tests

import (
	"encoding/binary"
	"math/rand/v2"

	"loop.example/g00658/impl"
)

// This file has what the document says of the operation log, written down step by step, and the entries that it is tried on.

func submitOf(a impl.Label, need int64, long int64, prio int64) impl.Entry {
	return impl.Entry{Kind: impl.EnSubmit, Label: a, A: need, B: long, C: prio}
}

func changeOf(a impl.Label, id int64, state int64) impl.Entry {
	return impl.Entry{Kind: impl.EnChange, Label: a, A: id, B: state}
}

func advance() impl.Entry {
	return impl.Entry{Kind: impl.EnAdvance}
}

// entryFor is the entry of a move.
func entryFor(m move) impl.Entry {
	switch m.kind {
	case moveSubmit:
		return submitOf(m.label, m.nums[0], m.nums[1], m.nums[2])
	case moveChange:
		return changeOf(m.label, m.nums[0], m.nums[1])
	}
	return advance()
}

func plainEntryRight(e impl.Entry) bool {
	if !plainLabelRight(e.Label) {
		return false
	}
	for _, n := range []int64{e.A, e.B, e.C} {
		if n < 0 || n > 100 {
			return false
		}
	}
	idle := e.Label == label(0, 0) && e.A == 0 && e.B == 0 && e.C == 0
	return e.Kind == 1 || e.Kind == 2 && e.C == 0 || e.Kind == 3 && idle
}

// roughBytes encodes an entry as if it were valid.
func roughBytes(e impl.Entry) string {
	return plainSeal(numText(e.Kind, e.Label.Level, e.Label.Set, e.A, e.B, e.C))
}

// numText encodes with the library.
func numText(nums ...int64) string {
	var text []byte
	for _, n := range nums {
		text = binary.AppendVarint(text, n)
	}
	return string(text)
}

func plainEntryBytes(e impl.Entry) string {
	if !plainEntryRight(e) {
		return ""
	}
	return roughBytes(e)
}

func plainEntryRead(text string) impl.EntryOut {
	switch {
	case len(text) > 8000:
		return impl.EntryOut{Code: impl.ErrSize}
	case len(text) < 4:
		return impl.EntryOut{Code: impl.ErrShort}
	case plainSeal(text[:len(text)-4]) != text:
		return impl.EntryOut{Code: impl.ErrSum}
	}
	body := text[:len(text)-4]
	var nums []int64
	for body != "" {
		num := plainNum(body)
		if num.Code != impl.OK {
			return impl.EntryOut{Code: impl.ErrSyntax}
		}
		nums = append(nums, num.N)
		body = body[num.At:]
	}
	if len(nums) != 6 {
		return impl.EntryOut{Code: impl.ErrSyntax}
	}
	e := impl.Entry{Kind: nums[0], Label: label(nums[1], nums[2]), A: nums[3], B: nums[4], C: nums[5]}
	if !plainEntryRight(e) {
		return impl.EntryOut{Code: impl.ErrSyntax}
	}
	return impl.EntryOut{Entry: e}
}

func plainAct(p impl.Pool, e impl.Entry) impl.PoolOut {
	if !plainEntryRight(e) {
		return impl.PoolOut{Code: impl.ErrForm}
	}
	m := move{kind: moveStep, label: e.Label, nums: [3]int64{e.A, e.B, e.C}}
	switch e.Kind {
	case 1:
		m.kind = moveSubmit
	case 2:
		m.kind = moveChange
	}
	return m.plain(p)
}

// lined puts the length in front of a text.
func lined(text string) string {
	return numText(int64(len(text))) + text
}

// record is what a log has for an entry, valid or not.
func record(e impl.Entry) string {
	return lined(roughBytes(e))
}

func logOf(entries ...impl.Entry) string {
	log := ""
	for _, e := range entries {
		log += record(e)
	}
	return log
}

func plainReplay(clear [][]impl.Label, log string) impl.ReplayOut {
	out := impl.ReplayOut{Pool: impl.Pool{Clear: clear}}
	switch {
	case len(clear) > 400 || len(log) > 8000:
		return impl.ReplayOut{Code: impl.ErrSize}
	case !plainPoolRight(out.Pool):
		return impl.ReplayOut{Code: impl.ErrForm}
	}
	for {
		rest := log[out.Size:]
		size := plainNum(rest)
		if size.Code != impl.OK || size.N < 0 || size.At+size.N > int64(len(rest)) {
			return out
		}
		e := plainEntryRead(rest[size.At : size.At+size.N])
		next := plainAct(out.Pool, e.Entry)
		if e.Code != impl.OK || next.Code != impl.OK {
			return out
		}
		out.Pool = next.Pool
		out.Size += size.At + size.N
	}
}

// someNums has the limits of A, B and C, numbers on both sides of them, and those at which an encoding grows.
func someNums() []int64 {
	return []int64{-1, 0, 1, 2, 63, 64, 99, 100, 101}
}

// rightEntries lists valid entries of all kinds, for all labels and with each limit.
func rightEntries() []impl.Entry {
	right := []impl.Entry{advance()}
	nums := []int64{0, 1, 63, 64, 100}
	for _, a := range allLabels() {
		for _, n := range nums {
			right = append(right, submitOf(a, n, 0, 0), submitOf(a, 0, n, 0), submitOf(a, 0, 0, n), submitOf(a, n, n, n))
			for _, m := range nums {
				right = append(right, changeOf(a, n, m))
			}
		}
	}
	return right
}

// wrongEntries lists entries that are wrong in one way each.
func wrongEntries() []impl.Entry {
	low := label(0, 0)
	right := []impl.Entry{submitOf(low, 1, 1, 0), submitOf(label(3, 7), 100, 100, 100), changeOf(label(1, 0), 1, 3), advance()}
	wrong := []impl.Entry{{}, {Kind: impl.EnChange, C: 1}, {Kind: impl.EnChange, Label: label(1, 0), A: 1, B: 3, C: 100}}
	for _, n := range append(wrongNums(), -1, 101) {
		for _, e := range right {
			l := []impl.Entry{e, e, e, e}
			l[0].Kind, l[1].A, l[2].B, l[3].C = n, n, n, n
			wrong = append(wrong, l...)
		}
	}
	for _, e := range right {
		for _, kind := range []int64{0, 4, 5} {
			e.Kind = kind
			wrong = append(wrong, e)
		}
	}
	for _, a := range wrongLabels() {
		for _, e := range right {
			e.Label = a
			wrong = append(wrong, e)
		}
	}
	return append(wrong, busyAdvances()...)
}

// busyAdvances lists entries of an advance that has something besides its kind.
func busyAdvances() []impl.Entry {
	var l []impl.Entry
	for _, n := range []int64{1, 2, 3} {
		e := advance()
		l = append(l, e, e, e, e, e)
		five := l[len(l)-5:]
		five[0].Label.Level, five[1].Label.Set, five[2].A, five[3].B, five[4].C = n, n, n, n, n
	}
	return append(l, impl.Entry{Kind: impl.EnAdvance, Label: label(3, 7), A: 100, B: 100, C: 100})
}

// mixedEntry is mostly valid, and is mostly one that a pool with such clearances may accept.
func mixedEntry(r *rand.Rand, clear [][]impl.Label) impl.Entry {
	moves := mixedMoves(r, clear)
	e := entryFor(moves[r.IntN(len(moves))])
	switch r.IntN(12) {
	case 0:
		e.Kind = int64(r.IntN(6))
	case 1:
		e.A = someNums()[r.IntN(9)]
	case 2:
		e.B = someNums()[r.IntN(9)]
	case 3:
		e.C = someNums()[r.IntN(9)]
	case 4:
		e.Label.Level += int64(r.IntN(5)) - 2
	}
	return e
}
