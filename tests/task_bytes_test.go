package tests

import (
	"math"
	"math/rand/v2"
	"slices"
	"strings"
	"testing"

	"loop.example/g00658/impl"
)

func wantTaskRead(t *testing.T, text string, at int64, want impl.TaskOut) {
	t.Helper()
	if got := impl.TaskRead(text, at); !sameTaskOut(got, want) {
		t.Errorf("TaskRead(%q, %d) = %+v, want %+v", short(text), at, got, want)
	}
}

func wantTaskCode(t *testing.T, text string, at int64, code int64) {
	t.Helper()
	wantTaskRead(t, text, at, impl.TaskOut{Code: code})
	if model := plainTaskRead(text, at); model.Code != code {
		t.Errorf("the model reads %q at %d with code %d, want %d", short(text), at, model.Code, code)
	}
}

// wantTaskDecoded is promise 17 for one task: it is read from its bytes, wherever they are.
func wantTaskDecoded(t *testing.T, x impl.Task) {
	t.Helper()
	text := impl.TaskBytes(x)
	if text != roughTaskBytes(x) || text == "" {
		t.Errorf("TaskBytes(%+v) = %q, want %q", x, text, roughTaskBytes(x))
	}
	size := int64(len(text))
	for _, front := range []string{"", "\x00", "\x80", "x\xff", text, text[:len(text)-1], textOf(300)} {
		at := int64(len(front))
		for _, rest := range []string{"", "\x00", "\x80", text, strings.Repeat("\xff", 11)} {
			wantTaskRead(t, front+text+rest, at, impl.TaskOut{Task: x, At: at + size})
		}
	}
}

func TestTaskBytes(t *testing.T) {
	ann := impl.Task{Id: 1, Owner: "ann", Need: 1, Long: 2, Prio: 3, Born: 4, State: impl.TkWaits}
	most := impl.Task{Label: label(3, 7), Id: 12, Owner: longName, Need: 6, Long: 20, Prio: 9, Under: label(2, 5), After: 11, Born: lastBorn, State: impl.TkRuns, Start: impl.MaxTime, Nodes: []int64{0, 1, 2, 3, 4, 5}}
	for _, c := range []struct {
		x    impl.Task
		text string
	}{
		{ann, "\x00\x00\x02\x06ann\x02\x04\x06\x00\x00\x00\x08\x02\x00\x00"},
		{taskAt(ann, 64, 5), "\x00\x00\x02\x06ann\x02\x04\x06\x00\x00\x00\x08\x02\x80\x01\x02\x0a"},
		{most, "\x06\x0e\x18\x28" + longName + "\x0c\x28\x12\x04\x0a\x16\xb8\x87\x7a\x04\x80\x89\x7a\x0c\x00\x02\x04\x06\x08\x0a"},
	} {
		if got := impl.TaskBytes(c.x); got != c.text {
			t.Errorf("TaskBytes(%+v) = %q, want %q", c.x, got, c.text)
		}
		wantTaskDecoded(t, c.x)
	}
}

func TestTaskIsDecoded(t *testing.T) {
	for _, x := range rightTasks() {
		wantTaskDecoded(t, x)
	}
	for _, a := range allLabels() {
		for _, b := range allLabels() {
			if plainBelow(b, a) {
				wantTaskDecoded(t, after(task(a, 12), b, 5))
			}
		}
	}
	for _, nodes := range rising()[1:] {
		for _, state := range []int64{impl.TkWaits, impl.TkRuns} {
			x := taskAt(task(label(1, 1), 2), 700, nodes...)
			x.Need, x.State = int64(len(nodes)), state
			wantTaskDecoded(t, x)
		}
	}
	x := task(label(0, 0), 1)
	for _, name := range rightNames() {
		x.Owner = name
		wantTaskDecoded(t, x)
	}
	r := rand.New(rand.NewPCG(17, 7))
	for range 100 {
		for _, x := range mixedTasks(r) {
			wantTaskDecoded(t, x)
		}
	}
}

// TestTasksInARow reads the tasks of a list from the text of all their bytes.
func TestTasksInARow(t *testing.T) {
	r := rand.New(rand.NewPCG(17, 8))
	for range 200 {
		l := mixedTasks(r)
		text := ""
		for _, x := range l {
			text += impl.TaskBytes(x)
		}
		at := int64(0)
		for _, x := range l {
			got := impl.TaskRead(text, at)
			if got.Code != impl.OK || !sameTask(got.Task, x) {
				t.Fatalf("TaskRead at %d of %d bytes = %+v, want %+v", at, len(text), got, x)
			}
			at = got.At
		}
		if at != int64(len(text)) {
			t.Errorf("%d of %d bytes have been read", at, len(text))
		}
		wantTaskCode(t, text, at, impl.ErrShort)
	}
}

// TestWrongTasksHaveNoBytes writes them as if they were right: they are read with ErrForm, unless they have too many nodes or too long an owner.
func TestWrongTasksHaveNoBytes(t *testing.T) {
	for _, x := range wrongTasks() {
		if got := impl.TaskBytes(x); got != "" {
			t.Errorf("TaskBytes(%+v) = %q", fewTasks([]impl.Task{x}), short(got))
		}
		text := roughTaskBytes(x)
		code := int64(impl.ErrForm)
		switch {
		case len(text) > impl.MaxBytes:
			code = impl.ErrSize
		case len(x.Nodes) > 6:
			code = impl.ErrSyntax
		}
		wantTaskCode(t, text, 0, code)
	}
}

func TestTaskReadOffsets(t *testing.T) {
	x := threeTasks()[2]
	text := "\x80" + impl.TaskBytes(x)
	end := int64(len(text))
	for _, at := range []int64{math.MinInt64, math.MinInt64 + 1, -256, -2, -1} {
		wantTaskCode(t, text, at, impl.ErrForm)
		wantTaskCode(t, "", at, impl.ErrForm)
		wantTaskCode(t, textOf(impl.MaxBytes), at, impl.ErrForm)
	}
	for _, at := range []int64{end, end + 1, end + 2, impl.MaxBytes, 1 << 32, math.MaxInt64 - 1, math.MaxInt64} {
		wantTaskCode(t, text, at, impl.ErrShort)
		wantTaskCode(t, "", at, impl.ErrShort)
	}
	wantTaskCode(t, "", 0, impl.ErrShort)
	wantTaskRead(t, text, 1, impl.TaskOut{Task: x, At: end})
	for _, x := range rightTasks() {
		text := impl.TaskBytes(x)
		text += text
		for at := range int64(len(text)) {
			wantTaskRead(t, text, at, plainTaskRead(text, at))
		}
	}
}

func TestTaskReadOfBeginnings(t *testing.T) {
	for _, x := range rightTasks() {
		text := impl.TaskBytes(x)
		for cut := range len(text) {
			wantTaskCode(t, text[:cut], 0, impl.ErrShort)
			wantTaskCode(t, "ab"+text[:cut], 2, impl.ErrShort)
		}
	}
}

// taskParts are the encodings of the parts of a task, one by one.
func taskParts(x impl.Task) []string {
	var parts []string
	nums := []int64{x.Label.Level, x.Label.Set, x.Id, x.Need, x.Long, x.Prio, x.Under.Level, x.Under.Set, x.After, x.Born, x.State, x.Start, int64(len(x.Nodes))}
	for _, n := range slices.Concat(nums, x.Nodes) {
		parts = append(parts, numText(n))
	}
	return slices.Insert(parts, 3, lined(x.Owner))
}

// TestTaskReadOfMalformedParts breaks one part, behind which nothing is read any more, also if it is malformed in another way.
func TestTaskReadOfMalformedParts(t *testing.T) {
	longer, tenth := "\x80\x00", strings.Repeat("\xff", 9)+"\x02"
	for _, x := range rightTasks() {
		parts := taskParts(x)
		if strings.Join(parts, "") != impl.TaskBytes(x) {
			t.Fatalf("the parts %q are not those of %+v", parts, x)
		}
		for i := range parts {
			front := strings.Join(parts[:i], "")
			rest := strings.Join(parts[i+1:], "")
			for _, bad := range []string{longer, tenth, "\x82\x80\x00", strings.Repeat("\x80", 10), strings.Repeat("\x80", 9) + "\x00"} {
				wantTaskCode(t, front+bad+rest, 0, impl.ErrSyntax)
				wantTaskCode(t, front+bad, 0, impl.ErrSyntax)
				wantTaskCode(t, front+bad+bad+rest, 0, impl.ErrSyntax)
				// A part before it that is well formed, but makes the task invalid, comes later in the order of errors.
				wantTaskCode(t, strings.Join(slices.Concat([]string{numText(9)}, parts[1:max(i, 1)]), "")+bad+rest, 0, impl.ErrSyntax)
			}
			for _, bad := range []string{"", "\x80", "\xff\xff", strings.Repeat("\x80", 9)} {
				wantTaskCode(t, front+bad, 0, impl.ErrShort)
			}
		}
	}
}

func TestTaskReadOfOwners(t *testing.T) {
	parts := taskParts(task(label(1, 2), 3))
	front, rest := strings.Join(parts[:3], ""), strings.Join(parts[4:], "")
	for _, name := range slices.DeleteFunc(wrongNames(), func(name string) bool { return len(name) > 7000 }) {
		wantTaskCode(t, front+lined(name)+rest, 0, impl.ErrForm)
	}
	for _, n := range []int64{-1, -2, impl.MaxBytes + 1, impl.MaxTime, math.MinInt64, math.MaxInt64} {
		wantTaskCode(t, front+numText(n)+rest, 0, impl.ErrSyntax)
		wantTaskCode(t, front+numText(n), 0, impl.ErrSyntax)
	}
	for _, n := range []int64{50, 255, 7999, impl.MaxBytes} {
		wantTaskCode(t, front+numText(n)+rest, 0, impl.ErrShort)
	}
	// So much is not too short, but the owner ends elsewhere.
	for n := range int64(len(rest)) {
		text := front + numText(n) + rest
		wantTaskRead(t, text, 0, plainTaskRead(text, 0))
	}
}

// TestTaskReadOfNodeCounts has any number of nodes in front of any other number of them.
func TestTaskReadOfNodeCounts(t *testing.T) {
	for _, x := range rightTasks() {
		parts := taskParts(x)
		front := strings.Join(parts[:13], "")
		for count := int64(-2); count <= 9; count++ {
			for n := range int64(9) {
				text := front + numText(count) + numText([]int64{0, 1, 2, 3, 4, 5, 6, 7, 8}[:n]...)
				want := plainTaskRead(text, 0)
				wantTaskRead(t, text, 0, want)
				switch {
				case count < 0 || count > 6:
					wantTaskCode(t, text, 0, impl.ErrSyntax)
				case count > n:
					wantTaskCode(t, text, 0, impl.ErrShort)
				case want.Code == impl.OK && want.At != int64(len(text))-(n-count):
					t.Errorf("TaskRead(%q, 0) ends at %d", text, want.At)
				}
			}
		}
		for _, count := range append(wrongNums(), -1, 7) {
			wantTaskCode(t, front+numText(count), 0, impl.ErrSyntax)
			wantTaskCode(t, front+numText(count)+"\x80", 0, impl.ErrSyntax)
		}
	}
}

// TestTaskReadOfChangedParts puts other numbers into each part: what is read is what they say now.
func TestTaskReadOfChangedParts(t *testing.T) {
	nums := append(edgeNums(), wrongNums()...)
	for n := int64(-3); n <= 23; n++ {
		nums = append(nums, n)
	}
	read := 0
	for _, x := range rightTasks() {
		parts := taskParts(x)
		for i := range parts {
			for _, n := range nums {
				changed := slices.Clone(parts)
				changed[i] = numText(n)
				text := strings.Join(changed, "")
				want := plainTaskRead(text, 0)
				wantTaskRead(t, text, 0, want)
				read += btoi(want.Code == impl.OK)
			}
		}
	}
	if read < 1000 {
		t.Errorf("only %d changed texts are tasks", read)
	}
}

// TestTaskReadOfChangedBytes changes every byte in every way.
func TestTaskReadOfChangedBytes(t *testing.T) {
	count := map[int64]int{}
	for _, x := range rightTasks() {
		text := impl.TaskBytes(x)
		for i := range len(text) {
			for change := 1; change < 256; change++ {
				other := changed(text, i, byte(change))
				want := plainTaskRead(other, 0)
				wantTaskRead(t, other, 0, want)
				count[want.Code]++
				if want.Code == impl.OK && impl.TaskBytes(want.Task) != other[:want.At] {
					t.Errorf("TaskRead(%q, 0) returns a task with other bytes: %+v", other, want)
				}
			}
		}
	}
	for _, code := range []int64{impl.OK, impl.ErrForm, impl.ErrShort, impl.ErrSyntax} {
		if count[code] < 100 {
			t.Errorf("only %d changed texts have code %d", count[code], code)
		}
	}
}

func TestTaskReadOfMixedTasks(t *testing.T) {
	r := rand.New(rand.NewPCG(17, 9))
	count := map[int64]int{}
	for range 4000 {
		x := spoilTask(r, mixedTask(r, allLabels()[r.IntN(32)], 1+r.Int64N(12)))
		text := roughTaskBytes(x)
		if got := impl.TaskBytes(x); got != plainTaskBytes(x) {
			t.Errorf("TaskBytes(%+v) = %q, want %q", fewTasks([]impl.Task{x}), short(got), short(plainTaskBytes(x)))
		}
		want := plainTaskRead(text, 0)
		wantTaskRead(t, text, 0, want)
		count[want.Code]++
	}
	if count[impl.OK] < 500 || count[impl.ErrForm] < 500 {
		t.Errorf("the spoilt tasks are too much alike: %v", count)
	}
}

func TestTaskReadSizeLimit(t *testing.T) {
	for _, x := range []impl.Task{task(label(0, 0), 1), threeTasks()[2]} {
		text := impl.TaskBytes(x)
		size := int64(len(text))
		room := impl.MaxBytes - len(text)
		wantTaskRead(t, text+strings.Repeat("\xff", room), 0, impl.TaskOut{Task: x, At: size})
		wantTaskRead(t, strings.Repeat("\xff", room)+text, int64(room), impl.TaskOut{Task: x, At: impl.MaxBytes})
		for _, more := range []int{1, 2, impl.MaxBytes} {
			for _, at := range []int64{math.MinInt64, -1, 0, 1, int64(room), int64(room + more), impl.MaxBytes, impl.MaxBytes + 1, math.MaxInt64} {
				wantTaskCode(t, text+strings.Repeat("\xff", room+more), at, impl.ErrSize)
				wantTaskCode(t, strings.Repeat("\xff", room+more)+text, at, impl.ErrSize)
			}
		}
	}
	wantTaskCode(t, strings.Repeat("\x00", impl.MaxBytes), 0, impl.ErrForm)
	wantTaskCode(t, strings.Repeat("\x00", impl.MaxBytes+1), 0, impl.ErrSize)
	// An owner that leaves just enough room for the other parts is no name.
	parts := taskParts(task(label(0, 0), 1))
	front, rest := strings.Join(parts[:3], ""), strings.Join(parts[4:], "")
	most := impl.MaxBytes - len(front) - 2 - len(rest)
	wantTaskCode(t, front+lined(strings.Repeat("a", most))+rest, 0, impl.ErrForm)
	wantTaskCode(t, front+lined(strings.Repeat("a", most+1))+rest, 0, impl.ErrSize)
}
