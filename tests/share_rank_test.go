package tests

import (
	"math"
	"testing"

	"loop.example/g00658/impl"
)

func wantRank(t *testing.T, want int64, prio int64, age int64, used int64) {
	t.Helper()
	if got := impl.Rank(prio, age, used); got != want || got != plainRank(prio, age, used) {
		t.Errorf("Rank(%d, %d, %d) = %d, want %d", prio, age, used, got, want)
	}
}

// rankTimes are the times at which a rank may change, and the last ones.
func rankTimes() []int64 {
	return []int64{0, 1, 2, 48, 49, 50, 51, 52, 88, 89, 90, 91, 92, 99, 100, 101, impl.MaxUse, impl.MaxTime - 1, impl.MaxTime}
}

func wrongRankTimes() []int64 {
	return []int64{-1, -2, -50, -90, impl.MaxTime + 1, impl.MaxTime + 2, math.MinInt64, math.MinInt64 + 1, math.MaxInt64 - 1, math.MaxInt64}
}

func TestRank(t *testing.T) {
	for _, c := range []struct{ prio, age, used, rank int64 }{
		{2, 60, 10, 240}, {0, 3, 100, -87}, {10, 0, 0, 0}, {-1, 0, 0, 0},
		{0, 0, 0, 0}, {9, 0, 0, 900}, {9, 50, 0, 950}, {9, impl.MaxTime, 0, 950}, {0, 0, impl.MaxTime, -90},
		{0, 49, 0, 49}, {0, 50, 0, 50}, {0, 51, 0, 50}, {0, 89, 0, 50}, {0, 90, 0, 50}, {0, 91, 0, 50},
		{0, 0, 49, -49}, {0, 0, 50, -50}, {0, 0, 51, -51}, {0, 0, 89, -89}, {0, 0, 90, -90}, {0, 0, 91, -90},
		{5, 49, 89, 460}, {5, 50, 90, 460}, {5, 51, 91, 460}, {1, impl.MaxTime, impl.MaxTime, 60}, {1, 7, 7, 100},
	} {
		wantRank(t, c.rank, c.prio, c.age, c.used)
	}
}

func TestRankOfAllTimes(t *testing.T) {
	for prio := int64(-3); prio <= 12; prio++ {
		for _, age := range rankTimes() {
			for _, used := range rankTimes() {
				wantRank(t, plainRank(prio, age, used), prio, age, used)
			}
		}
	}
}

func TestRankOfWrongArguments(t *testing.T) {
	for _, prio := range append(wrongNums(), -1, 10, 11, 100) {
		for _, age := range append(rankTimes(), wrongRankTimes()...) {
			for _, used := range append(rankTimes(), wrongRankTimes()...) {
				wantRank(t, 0, prio, age, used)
			}
		}
	}
	for prio := int64(0); prio <= 9; prio++ {
		for _, wrong := range wrongRankTimes() {
			for _, right := range rankTimes() {
				wantRank(t, 0, prio, wrong, right)
				wantRank(t, 0, prio, right, wrong)
			}
			for _, other := range wrongRankTimes() {
				wantRank(t, 0, prio, wrong, other)
			}
		}
	}
}

// wantRankSteps is promise 16 for a task, one of the next priority, one that is older by one, and one whose owner has used one more.
func wantRankSteps(t *testing.T, prio int64, age int64, used int64) {
	t.Helper()
	rank := impl.Rank(prio, age, used)
	if prio < 9 && impl.Rank(prio+1, age, used) != rank+100 {
		t.Errorf("one more priority than Rank(%d, %d, %d) = %d: %d", prio, age, used, rank, impl.Rank(prio+1, age, used))
	}
	if older := impl.Rank(prio, age+1, used) - rank; age < impl.MaxTime && older != int64(btoi(age < 50)) {
		t.Errorf("Rank(%d, %d, %d) = %d, and %d more for one that is older", prio, age, used, rank, older)
	}
	if more := rank - impl.Rank(prio, age, used+1); used < impl.MaxTime && more != int64(btoi(used < 90)) {
		t.Errorf("Rank(%d, %d, %d) = %d, and %d less for one whose owner has used more", prio, age, used, rank, more)
	}
}

func TestRankGrows(t *testing.T) {
	for prio := int64(0); prio <= 9; prio++ {
		for age := range int64(110) {
			for used := range int64(110) {
				wantRankSteps(t, prio, age, used)
			}
		}
		for _, age := range rankTimes() {
			for _, used := range rankTimes() {
				wantRankSteps(t, prio, age, used)
			}
		}
	}
}

// TestRankIsInOrder compares any two tasks of one priority: one that is no younger, and whose owner has used no more, has no less rank.
func TestRankIsInOrder(t *testing.T) {
	for _, age := range rankTimes() {
		for _, used := range rankTimes() {
			for _, younger := range rankTimes() {
				for _, more := range rankTimes() {
					if younger <= age && more >= used && impl.Rank(4, younger, more) > impl.Rank(4, age, used) {
						t.Errorf("Rank(4, %d, %d) is less than Rank(4, %d, %d)", age, used, younger, more)
					}
				}
			}
		}
	}
}
