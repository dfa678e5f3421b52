package tests

import (
	"cmp"
	"fmt"
	"math/rand/v2"
	"slices"
	"strings"

	"loop.example/g00658/impl"
)

// This file has what the document says of uses and ranks, written down step by step, and the lists of uses that they are tried on.

// longName has as many bytes as a name may have.
const longName = "abcdefghij0123456789"

func plainNameRight(t string) bool {
	letters := "abcdefghijklmnopqrstuvwxyz"
	return len(t) >= 1 && len(t) <= 20 && strings.Contains(letters, t[:1]) && strings.Trim(t, letters+"0123456789_") == ""
}

func use(a impl.Label, owner string, n int64) impl.Use {
	return impl.Use{Label: a, Owner: owner, Used: n}
}

// rightNames are in increasing order; many of them are the beginning of the next one.
func rightNames() []string {
	return []string{"a", "a0", "a00", "a9", "a_", "a__", "aa", "ab", longName[:19], longName, "ann", "b", "bo", "bob", "bob0", "z", "z9", "z_", "z" + longName[1:]}
}

func wrongNames() []string {
	return []string{"", "_", "_a", "0", "9a", "A", "aB", "Cy", "a b", " a", "a ", "a-", "a\n", "\n", "a\x00", "\x00", "é", "aé", "a\xff", "`", "{", "a`", "a{", "a/", "a:", "a^",
		longName + "a", longName + "\n", "A" + longName[:19], longName[:19] + "A", strings.Repeat("a", 21), textOf(impl.MaxBytes), strings.Repeat("a", impl.MaxBytes)}
}

// tooLongNames are beyond the size limit of an argument.
func tooLongNames() []string {
	return []string{strings.Repeat("a", impl.MaxBytes+1), textOf(impl.MaxBytes + 1), textOf(20000)}
}

// wrongUsed lists numbers that nobody can have used, and that cannot be added.
func wrongUsed() []int64 {
	wrong := slices.DeleteFunc(wrongNums(), func(n int64) bool {
		return n == 256
	})
	return append(wrong, -100000, -2, -1, 0, impl.MaxUse+1, impl.MaxUse+2, impl.MaxTime)
}

// manyUses makes so many uses, in order, with so many owners for each label from the lowest one on.
func manyUses(n int, each int) []impl.Use {
	all := allLabels()
	var l []impl.Use
	for i := range n {
		l = append(l, use(all[i/each], fmt.Sprintf("n%03d", i%each), int64(1+i*997%impl.MaxUse)))
	}
	return l
}

// threeUses has a label between two others, all with different owners.
func threeUses() []impl.Use {
	return []impl.Use{use(label(0, 0), "bob", 3), use(label(1, 5), "ann", 1), use(label(3, 7), longName, impl.MaxUse)}
}

// fewUses are the first elements of a list that is too long to print.
func fewUses(l []impl.Use) []impl.Use {
	few := slices.Clone(l[:min(len(l), 8)])
	for i, u := range few {
		few[i].Owner = short(u.Owner)
	}
	return few
}

func plainCompare(a impl.Use, b impl.Use) int {
	switch {
	case a.Label.Level != b.Label.Level:
		return cmp.Compare(a.Label.Level, b.Label.Level)
	case a.Label.Set != b.Label.Set:
		return cmp.Compare(a.Label.Set, b.Label.Set)
	}
	return strings.Compare(a.Owner, b.Owner)
}

func plainOwners(l []impl.Use, a impl.Label) int {
	n := 0
	for _, u := range l {
		if u.Label == a {
			n++
		}
	}
	return n
}

// plainUsesRight compares each element with all before it.
func plainUsesRight(l []impl.Use) bool {
	if len(l) > 48 {
		return false
	}
	for i, u := range l {
		if !plainLabelRight(u.Label) || !plainNameRight(u.Owner) || u.Used < 1 || u.Used > 100000 || plainOwners(l, u.Label) > 6 {
			return false
		}
		for _, earlier := range l[:i] {
			if plainCompare(earlier, u) >= 0 {
				return false
			}
		}
	}
	return true
}

// plainAt returns the index of the element for a label and an owner, or -1.
func plainAt(l []impl.Use, a impl.Label, owner string) int {
	for i, u := range l {
		if u.Label == a && u.Owner == owner {
			return i
		}
	}
	return -1
}

func plainUseOf(l []impl.Use, a impl.Label, owner string) int64 {
	at := plainAt(l, a, owner)
	if !plainUsesRight(l) || at < 0 {
		return 0
	}
	return l[at].Used
}

func plainUseAdd(l []impl.Use, a impl.Label, owner string, n int64) []impl.Use {
	if len(l) > 400 || len(owner) > 8000 {
		return nil
	}
	added := slices.Clone(l)
	if !plainUsesRight(l) || !plainLabelRight(a) || !plainNameRight(owner) || n < 1 || n > 100000 {
		return added
	}
	if at := plainAt(l, a, owner); at >= 0 {
		added[at].Used = min(added[at].Used+n, 100000)
		return added
	}
	if plainOwners(l, a) == 6 || len(l) == 48 {
		return added
	}
	added = append(added, use(a, owner, n))
	slices.SortFunc(added, plainCompare)
	return added
}

func plainUsesHalf(l []impl.Use) []impl.Use {
	if !plainUsesRight(l) {
		return nil
	}
	var left []impl.Use
	for _, u := range l {
		if u.Used > 1 {
			left = append(left, use(u.Label, u.Owner, u.Used>>1))
		}
	}
	return left
}

func plainRank(prio int64, age int64, used int64) int64 {
	if prio < 0 || prio > 9 || age < 0 || age > 1000000 || used < 0 || used > 1000000 {
		return 0
	}
	if age > 50 {
		age = 50
	}
	if used > 90 {
		used = 90
	}
	return 100*prio + age - used
}

func mixedUsed(r *rand.Rand) int64 {
	edges := []int64{1, 1, 2, 3, 4, 7, 49999, 50000, 99998, 99999, 100000}
	if n := r.IntN(2 * len(edges)); n < len(edges) {
		return edges[n]
	}
	return 1 + r.Int64N(impl.MaxUse)
}

// mixedUses makes a valid list, in a few cases one that has no room.
func mixedUses(r *rand.Rand) []impl.Use {
	var l []impl.Use
	labelOdds, ownerOdds := 1+r.IntN(10), 1+r.IntN(18)
	for _, a := range allLabels() {
		if r.IntN(10) >= labelOdds {
			continue
		}
		for _, owner := range rightNames() {
			if r.IntN(18) < ownerOdds && plainOwners(l, a) < 6 && len(l) < 48 {
				l = append(l, use(a, owner, mixedUsed(r)))
			}
		}
	}
	return l
}

// spoilUses changes one thing of a list, which may stay valid.
func spoilUses(r *rand.Rand, l []impl.Use) []impl.Use {
	if len(l) == 0 {
		return manyUses(49+r.IntN(100), 6)
	}
	i, k := r.IntN(len(l)), r.IntN(len(l))
	switch r.IntN(6) {
	case 0:
		l[i], l[k] = l[k], l[i]
	case 1:
		l = slices.Insert(l, i, l[k])
	case 2:
		l[i].Owner = wrongNames()[r.IntN(len(wrongNames()))]
	case 3:
		l[i].Label = label(int64(r.IntN(6))-1, int64(r.IntN(10))-1)
	case 4:
		l[i].Used = int64(r.IntN(4)) - 2
	case 5:
		l[i].Used = impl.MaxUse - 1 + int64(r.IntN(4))
	}
	return l
}

// wrongUses lists lists of uses that are wrong in one way each.
func wrongUses() [][]impl.Use {
	wrong := [][]impl.Use{manyUses(49, 6), manyUses(49, 2), manyUses(60, 5), manyUses(192, 6), manyUses(399, 13), manyUses(impl.MaxList, 13), make([]impl.Use, impl.MaxList)}
	wrong = append(wrong, wrongUseOrders()...)
	for i := range threeUses() {
		for _, name := range slices.Concat(wrongNames(), tooLongNames()) {
			l := threeUses()
			l[i].Owner = name
			wrong = append(wrong, l, l[i:i+1])
		}
		for _, n := range wrongUsed() {
			l := threeUses()
			l[i].Used = n
			wrong = append(wrong, l, l[i:i+1])
		}
		// The label is put in order, as far as there is one.
		for _, a := range wrongLabels() {
			l := threeUses()
			l[i].Label = a
			wrong = append(wrong, slices.Clone(l[i:i+1]))
			slices.SortFunc(l, plainCompare)
			wrong = append(wrong, l)
		}
		wrong = append(wrong, crowdedUses(i, 7), crowdedUses(i, 8), crowdedUses(i, 13))
	}
	return wrong
}

// crowdedUses gives so many owners to one of three labels.
func crowdedUses(at int, owners int) []impl.Use {
	l := threeUses()
	crowd := manyUses(owners, owners)
	for i := range crowd {
		crowd[i].Label = l[at].Label
	}
	return slices.Replace(l, at, at+1, crowd...)
}

// wrongUseOrders lists lists that are not strictly increasing, of elements that are all right.
func wrongUseOrders() [][]impl.Use {
	low, high := label(0, 0), label(1, 5)
	wrong := [][]impl.Use{
		{use(low, "ann", 2), use(low, "ann", 2)},
		{use(low, "ann", 2), use(low, "ann", 3)},
		{use(low, "ann", 3), use(low, "ann", 2)},
		{use(low, "bob", 3), use(low, "ann", 2)},
		{use(low, "ann", 3), use(low, "an", 2)},
		{use(low, "a_", 3), use(low, "a9", 2)},
		{use(low, "aa", 3), use(low, "a_", 2)},
		{use(high, "ann", 3), use(low, "bob", 2)},
		{use(high, "ann", 3), use(low, "ann", 2)},
		{use(label(0, 2), "ann", 3), use(label(0, 1), "bob", 2)},
		{use(label(2, 0), "ann", 3), use(label(1, 7), "bob", 2)},
		{use(low, "ann", 1), use(high, "ann", 1), use(low, "bob", 1)},
		{use(low, "ann", 1), use(low, "bob", 1), use(low, "ann", 1)},
		{use(low, "bob", 1), use(high, "ann", 1), use(high, "ann", 1)},
	}
	for i := range 47 {
		l := manyUses(48, 6)
		l[i], l[i+1] = l[i+1], l[i]
		twice := manyUses(48, 6)
		twice[i+1] = twice[i]
		wrong = append(wrong, l, twice)
	}
	return wrong
}

// tooManyUses lists lists beyond the size limit.
func tooManyUses() [][]impl.Use {
	return [][]impl.Use{manyUses(impl.MaxList+1, 13), make([]impl.Use, impl.MaxList+1), manyUses(3*impl.MaxList, 40)}
}
