package tests

import (
	"cmp"
	"math/rand/v2"
	"reflect"
	"slices"
	"strings"

	"loop.example/g00658/impl"
)

// This file has what the document says of tasks, written down step by step, and the tasks that it is tried on.

var taskStates = []int64{impl.TkWaits, impl.TkRuns, impl.TkHeld, impl.TkDone, impl.TkOver, impl.TkGone}

const lastBorn = impl.MaxTime - 100

// task is a waiting task that asks for as little as possible.
func task(a impl.Label, id int64) impl.Task {
	return impl.Task{Label: a, Id: id, Owner: "ann", Need: 1, Long: 1, State: impl.TkWaits}
}

func after(t impl.Task, under impl.Label, id int64) impl.Task {
	t.Under, t.After = under, id
	return t
}

func taskAt(t impl.Task, start int64, nodes ...int64) impl.Task {
	t.Start, t.Nodes = start, slices.Clone(nodes)
	return t
}

// taskIn gives a task a state and, if it runs, the last nodes that there are.
func taskIn(t impl.Task, state int64) impl.Task {
	t.State = state
	if state == impl.TkRuns {
		return taskAt(t, 9, []int64{0, 1, 2, 3, 4, 5}[6-t.Need:]...)
	}
	return taskAt(t, 0)
}

// chainOf makes tasks of one label in these states, each of which depends on the one before it.
func chainOf(a impl.Label, states ...int64) []impl.Task {
	var l []impl.Task
	for i, state := range states {
		t := taskIn(task(a, int64(i)+1), state)
		if i > 0 {
			t = after(t, a, int64(i))
		}
		l = append(l, t)
	}
	return l
}

// manyTasks makes so many tasks, so many of each label from the lowest one on.
func manyTasks(n int, each int) []impl.Task {
	var l []impl.Task
	for i := range n {
		l = append(l, task(allLabels()[i/each], int64(i%each)+1))
	}
	return l
}

// threeTasks has a label between two others, each of which dominates the one before it, and a task that depends on those of the others.
func threeTasks() []impl.Task {
	low, middle, high := label(0, 0), label(1, 5), label(3, 7)
	last := impl.Task{Label: high, Id: 1, Owner: longName, Need: 6, Long: 20, Prio: 9, Under: middle, After: 1, Born: lastBorn}
	return []impl.Task{task(low, 1), after(taskIn(task(middle, 1), impl.TkHeld), low, 1), taskIn(last, impl.TkRuns)}
}

// rightTasks lists valid tasks of each state with least, middle and greatest values, also with a reserved place.
func rightTasks() []impl.Task {
	least := impl.Task{Label: label(0, 0), Id: 1, Owner: "a", Need: 1, Long: 1}
	middle := impl.Task{Label: label(2, 5), Id: 7, Owner: "b_2", Need: 3, Long: 11, Prio: 5, Under: label(1, 4), After: 7, Born: 70}
	most := impl.Task{Label: label(3, 7), Id: 12, Owner: longName, Need: 6, Long: 20, Prio: 9, Under: label(3, 7), After: 11, Born: lastBorn}
	var right []impl.Task
	for _, t := range []impl.Task{least, middle, most} {
		for _, state := range taskStates {
			right = append(right, taskIn(t, state))
		}
		place := taskIn(t, impl.TkRuns)
		place.State = impl.TkWaits
		place.Start = 0
		right = append(right, place)
		place.Start = impl.MaxTime
		right = append(right, place)
	}
	return right
}

func fewTasks(l []impl.Task) []impl.Task {
	few := slices.Clone(l[:min(len(l), 6)])
	for i, t := range few {
		few[i].Owner = short(t.Owner)
		few[i].Nodes = t.Nodes[:min(len(t.Nodes), 8)]
	}
	return few
}

func cloneTasks(l []impl.Task) []impl.Task {
	copied := slices.Clone(l)
	for i, t := range copied {
		copied[i].Nodes = slices.Clone(t.Nodes)
	}
	return copied
}

// sameTask takes no nodes and empty nodes as equal.
func sameTask(a impl.Task, b impl.Task) bool {
	nodes := slices.Equal(a.Nodes, b.Nodes)
	a.Nodes, b.Nodes = nil, nil
	return nodes && reflect.DeepEqual(a, b)
}

func sameTasks(a []impl.Task, b []impl.Task) bool {
	return slices.EqualFunc(a, b, sameTask)
}

func sameTaskOut(a impl.TaskOut, b impl.TaskOut) bool {
	return a.At == b.At && a.Code == b.Code && sameTask(a.Task, b.Task)
}

// plainPlace reports whether a task has a start and nodes with which it may run.
func plainPlace(t impl.Task) bool {
	if t.Start < 0 || t.Start > 1000000 || len(t.Nodes) != int(t.Need) {
		return false
	}
	for i, n := range t.Nodes {
		if n < 0 || n > 5 || i > 0 && t.Nodes[i-1] >= n {
			return false
		}
	}
	return true
}

func plainTaskRight(t impl.Task) bool {
	between := func(n int64, least int64, most int64) bool { return least <= n && n <= most }
	if !plainLabelRight(t.Label) || !between(t.Id, 1, 12) || !plainNameRight(t.Owner) || !between(t.Need, 1, 6) || !between(t.Long, 1, 20) || !between(t.Prio, 0, 9) {
		return false
	}
	if t.After != 0 || t.Under != label(0, 0) {
		if !between(t.After, 1, 12) || !plainLabelRight(t.Under) || !plainBelow(t.Under, t.Label) || t.Under == t.Label && t.After >= t.Id {
			return false
		}
	}
	if !between(t.Born, 0, 1000000-100) || !between(t.State, 1, 6) {
		return false
	}
	if t.State == 2 || t.State == 1 && len(t.Nodes) > 0 {
		return plainPlace(t)
	}
	return t.Start == 0 && len(t.Nodes) == 0
}

// plainFind looks for a task everywhere in a list; it returns -1 if there is none.
func plainFind(l []impl.Task, a impl.Label, id int64) int {
	for i, t := range l {
		if t.Label == a && t.Id == id {
			return i
		}
	}
	return -1
}

func plainTasksRight(l []impl.Task) bool {
	if len(l) > 96 {
		return false
	}
	count := map[impl.Label]int64{}
	for i, t := range l {
		count[t.Label]++
		if !plainTaskRight(t) || t.Id != count[t.Label] || t.After != 0 && plainFind(l, t.Under, t.After) < 0 {
			return false
		}
		if i > 0 && cmp.Or(cmp.Compare(l[i-1].Label.Level, t.Label.Level), cmp.Compare(l[i-1].Label.Set, t.Label.Set)) > 0 {
			return false
		}
	}
	return true
}

func plainTaskOf(l []impl.Task, a impl.Label, id int64) impl.Task {
	at := plainFind(l, a, id)
	if at < 0 || !plainTasksRight(l) {
		return impl.Task{}
	}
	return l[at]
}

func plainLiveOf(l []impl.Task, a impl.Label) int64 {
	n := 0
	for _, t := range l {
		n += btoi(t.Label == a && slices.Contains([]int64{1, 2, 3}, t.State))
	}
	return int64(n * btoi(plainTasksRight(l)))
}

func plainTaskReady(l []impl.Task, t impl.Task) bool {
	if !plainTasksRight(l) || !plainTaskRight(t) || t.State != 1 {
		return false
	}
	if t.After == 0 {
		return true
	}
	at := plainFind(l, t.Under, t.After)
	return at >= 0 && l[at].State == 4
}

// plainOrphans follows the dependencies of each task, through those that it takes along, to one that was over or gone before.
func plainOrphans(l []impl.Task) []impl.Task {
	if !plainTasksRight(l) {
		return nil
	}
	left := cloneTasks(l)
	for i, t := range l {
		at := i
		for (l[at].State == 1 || l[at].State == 3) && l[at].After != 0 {
			at = plainFind(l, l[at].Under, l[at].After)
		}
		if (t.State == 1 || t.State == 3) && (l[at].State == 5 || l[at].State == 6) {
			left[i].State, left[i].Start, left[i].Nodes = 6, 0, nil
		}
	}
	return left
}

// roughTaskBytes encodes a task as if it were valid.
func roughTaskBytes(t impl.Task) string {
	return numText(t.Label.Level, t.Label.Set, t.Id) + lined(t.Owner) +
		numText(t.Need, t.Long, t.Prio, t.Under.Level, t.Under.Set, t.After, t.Born, t.State, t.Start, int64(len(t.Nodes))) + numText(t.Nodes...)
}

func plainTaskBytes(t impl.Task) string {
	if !plainTaskRight(t) {
		return ""
	}
	return roughTaskBytes(t)
}

func plainTaskRead(text string, at int64) impl.TaskOut {
	switch {
	case len(text) > 8000:
		return impl.TaskOut{Code: impl.ErrSize}
	case at < 0:
		return impl.TaskOut{Code: impl.ErrForm}
	case at > int64(len(text)):
		return impl.TaskOut{Code: impl.ErrShort}
	}
	t, size, code := plainTaskParts(text[at:])
	if code == impl.OK && !plainTaskRight(t) {
		code = impl.ErrForm
	}
	if code != impl.OK {
		return impl.TaskOut{Code: code}
	}
	return impl.TaskOut{Task: t, At: at + size}
}

// plainTaskParts takes the parts from the front of a text: numbers (n), one name (t), and a number that says how many more there are (c).
func plainTaskParts(text string) (impl.Task, int64, int64) {
	var t impl.Task
	var nums []int64
	rest, parts := text, "nnntnnnnnnnnnc"
	for i := 0; i < len(parts); i++ {
		num := plainNum(rest)
		if num.Code != impl.OK {
			return impl.Task{}, 0, num.Code
		}
		rest = rest[num.At:]
		switch {
		case parts[i] == 't' && (num.N < 0 || num.N > 8000), parts[i] == 'c' && (num.N < 0 || num.N > 6):
			return impl.Task{}, 0, impl.ErrSyntax
		case parts[i] == 't' && num.N > int64(len(rest)):
			return impl.Task{}, 0, impl.ErrShort
		case parts[i] == 't':
			t.Owner, rest = rest[:num.N], rest[num.N:]
		case parts[i] == 'c':
			parts += strings.Repeat("n", int(num.N))
		default:
			nums = append(nums, num.N)
		}
	}
	t.Label, t.Id, t.Need, t.Long, t.Prio = label(nums[0], nums[1]), nums[2], nums[3], nums[4], nums[5]
	t.Under, t.After, t.Born, t.State, t.Start = label(nums[6], nums[7]), nums[8], nums[9], nums[10], nums[11]
	t.Nodes = nums[12:]
	return t, int64(len(text) - len(rest)), impl.OK
}

// mixedTask is a valid task that depends on nothing.
func mixedTask(r *rand.Rand, a impl.Label, id int64) impl.Task {
	t := impl.Task{Label: a, Id: id, Owner: rightNames()[r.IntN(len(rightNames()))], Need: 1 + r.Int64N(6), Long: 1 + r.Int64N(20), Prio: r.Int64N(10), Born: r.Int64N(lastBorn + 1)}
	t = taskIn(t, taskStates[r.IntN(6)])
	if t.State == impl.TkRuns || t.State == impl.TkWaits && r.IntN(2) == 0 {
		nodes := slices.DeleteFunc(rising(), func(l []int64) bool { return len(l) != int(t.Need) })
		t = taskAt(t, r.Int64N(impl.MaxTime+1), nodes[r.IntN(len(nodes))]...)
	}
	return t
}

// mixedTasks makes a valid list, in which many tasks depend on others.
func mixedTasks(r *rand.Rand) []impl.Task {
	var l []impl.Task
	labelOdds, most := 1+r.IntN(12), 1+r.IntN(12)
	for _, a := range allLabels() {
		if r.IntN(12) >= labelOdds {
			continue
		}
		for id := range min(1+r.IntN(most), 96-len(l)) {
			t := mixedTask(r, a, int64(id)+1)
			below := slices.DeleteFunc(slices.Clone(l), func(u impl.Task) bool { return !plainBelow(u.Label, a) })
			if len(below) > 0 && r.IntN(3) > 0 {
				u := below[r.IntN(len(below))]
				t = after(t, u.Label, u.Id)
			}
			l = append(l, t)
		}
	}
	return l
}

// spoilTask changes one field of a task, which may stay valid.
func spoilTask(r *rand.Rand, t impl.Task) impl.Task {
	fields := taskFields(&t)
	*fields[r.IntN(len(fields))] += r.Int64N(5) - 2
	switch r.IntN(6) {
	case 0:
		t.Owner = wrongNames()[r.IntN(len(wrongNames()))]
	case 1:
		t.Nodes = append(slices.Clone(t.Nodes), r.Int64N(8)-1)
	case 2:
		t.Nodes = nil
	}
	return t
}

// spoilTasks changes one thing of a list, which may stay valid.
func spoilTasks(r *rand.Rand, l []impl.Task) []impl.Task {
	if len(l) == 0 {
		return manyTasks(97+r.IntN(200), 12)
	}
	i, k := r.IntN(len(l)), r.IntN(len(l))
	switch r.IntN(5) {
	case 0:
		l[i], l[k] = l[k], l[i]
	case 1:
		l = slices.Delete(l, i, i+1)
	case 2:
		l = slices.Insert(l, i, l[k])
	case 3:
		l[i] = spoilTask(r, l[i])
	case 4:
		l[i] = after(l[i], l[k].Label, r.Int64N(5))
	}
	return l
}
