package linear_test

import (
	"fmt"
	"math/rand"
	"testing"

	"reason/linear"
	"reason/sums"
	"reason/whole"
)

// TestKept: values within limits are looked for again and again, with limits that come and go; each time as if it were the first.
func TestKept(t *testing.T) {
	r := rand.New(rand.NewSource(6))
	counts := [3]int{}
	for round := 0; round < 200; round++ {
		columns := []int{0, 1, 2, 3}
		k := linear.NewKept(columns)
		var list []sums.Sum
		var sides []linear.Side
		for look := 0; look < 12; look++ {
			for n := r.Intn(4); n > 0; n-- {
				s := sum(r.Intn(19)-9, (r.Intn(9)-4)*r.Intn(2), (r.Intn(9)-4)*r.Intn(2), (r.Intn(9)-4)*r.Intn(2), (r.Intn(3)-1)*r.Intn(2))
				list = append(list, s)
				sides = append(sides, k.Side(s))
			}
			k.Clear()
			var at []int
			var set []sums.Sum
			for i, s := range list {
				// A sum without a term sets no limit.
				if r.Intn(3) > 0 && len(s.Parts) > 0 {
					k.Set(sides[i], i)
					at = append(at, i)
					set = append(set, s)
				}
			}
			marks := k.Look()
			want := linear.Solve(columns, set, 0, true).Closed
			if (marks != nil) != want {
				t.Fatalf("%v: %v, want %v", set, marks, want)
			}
			if want {
				wantClash(t, list, marks, at)
				counts[0]++
				continue
			}
			for _, i := range at {
				if !k.Fits(sides[i]) {
					t.Fatalf("%v: %v does not fit", set, list[i])
				}
			}
			counts[1]++
			values := k.Whole()
			if values == nil {
				continue
			}
			counts[2]++
			for i, s := range list {
				if fit := whole.Sign(worth(s, values)) <= 0; len(s.Parts) > 0 && fit != k.Fits(sides[i]) {
					t.Fatalf("%v fits in %v: %v", s, values, !fit)
				}
			}
		}
	}
	if counts[0] < 100 || counts[1] < 100 || counts[2] < 100 {
		t.Errorf("too few of a kind: %v", counts)
	}
}

// wantClash wants that the sums of marks, all of them set, contradict each other.
func wantClash(t *testing.T, list []sums.Sum, marks []int, set []int) {
	t.Helper()
	var clash []sums.Sum
	for _, i := range marks {
		is := false
		for _, j := range set {
			is = is || i == j
		}
		if !is {
			t.Fatalf("mark %d of %v was not set", i, marks)
		}
		clash = append(clash, list[i])
	}
	if !linear.Solve([]int{0, 1, 2, 3}, clash, 0, true).Closed {
		t.Fatalf("%v do not contradict each other", clash)
	}
}

// TestMarks: of limits of one number the nearest counts, whatever the order in which they are set.
func TestMarks(t *testing.T) {
	k := linear.NewKept([]int{0, 1})
	list := []sums.Sum{sum(-5, 1, 0), sum(-7, 2, 0), sum(-4, 1, 0), sum(1, -1, 0), sum(0, -1, 0), sum(3), sum(-1, 1, 1)}
	for i, s := range list {
		side := k.Side(s)
		k.Set(side, i)
		if again := k.Side(s); fmt.Sprint(again) != fmt.Sprint(side) {
			t.Errorf("%v sets two limits", s)
		}
	}
	marks := k.Marks()
	if len(marks) != 3 || marks[0] != 3 || marks[1] != 1 || marks[2] != 6 {
		t.Errorf("marks: %v", marks)
	}
	k.Clear()
	if marks := k.Marks(); len(marks) != 0 || k.Look() != nil || k.Fits(linear.Side{}) {
		t.Errorf("marks without limits: %v", marks)
	}
}
