package linear_test

import (
	"math/rand"
	"strings"
	"testing"

	"reason/linear"
	"reason/sums"
	"reason/whole"
)

// sum is a sum of terms 0, 1, .. so many times, and of a number.
func sum(number int, times ...int) sums.Sum {
	total := sums.NewTotal(len(times))
	total.Add(sums.Constant(whole.From(number)), whole.From(1))
	for term, n := range times {
		total.Add(sums.Single(term), whole.From(n))
	}
	return total.Sum()
}

// worth is what a sum comes to.
func worth(s sums.Sum, values []whole.Number) whole.Number {
	n := s.Number
	for _, p := range s.Parts {
		n = whole.Add(n, whole.Multiply(p.Times, values[p.Term]))
	}
	return n
}

// fits tells whether all sums are at most 0.
func fits(list []sums.Sum, values []whole.Number) bool {
	for _, s := range list {
		if whole.Sign(worth(s, values)) > 0 {
			return false
		}
	}
	return true
}

// TestSolve: values are found just if there are some, of three terms from -2 to 3 that are in other sums too.
func TestSolve(t *testing.T) {
	r := rand.New(rand.NewSource(4))
	counts := [2]int{}
	for round := 0; round < 600; round++ {
		var list []sums.Sum
		for term := 0; term < 3; term++ {
			times := [3]int{}
			times[term] = 1
			list = append(list, sum(-3, times[:]...))
			times[term] = -1
			list = append(list, sum(-2, times[:]...))
		}
		for n := 1 + r.Intn(4); n > 0; n-- {
			a, b, c, d := r.Intn(13)-6, r.Intn(13)-6, r.Intn(13)-6, r.Intn(13)-6
			list = append(list, sum(d, a, b, c))
			if r.Intn(2) == 0 {
				list = append(list, sum(-d-r.Intn(2), -a, -b, -c))
			}
		}
		some := false
		for way := 0; way < 216 && !some; way++ {
			some = fits(list, []whole.Number{whole.From(way%6 - 2), whole.From(way/6%6 - 2), whole.From(way/36 - 2)})
		}
		out := linear.Solve([]int{0, 1, 2}, list, -1, true)
		if out.Found != some || out.Closed == some {
			t.Fatalf("%v: found %v, closed %v, want %v", list, out.Found, out.Closed, some)
		}
		if some && (len(out.Values) != 3 || !fits(list, out.Values)) {
			t.Fatalf("%v: %v", list, out.Values)
		}
		if !some && (out.Values != nil || len(out.Used()) != len(list) || strings.Count(out.Tree(), "f") != strings.Count(out.Tree(), "s")+1) {
			t.Fatalf("%v: %v, %v, %q", list, out.Values, out.Used(), out.Tree())
		}
		for most := 0; most <= out.Spent+1; most++ {
			again := linear.Solve([]int{0, 1, 2}, list, most, true)
			if enough := most >= out.Spent; again.Found != (enough && some) || again.Closed != (enough && !some) || !enough && again.Spent != most+1 {
				t.Fatalf("%v: with %d of %d splits: %+v", list, most, out.Spent, again)
			}
		}
		if some {
			counts[1]++
		} else {
			counts[0]++
		}
	}
	if counts[0] < 100 || counts[1] < 100 {
		t.Errorf("too few of a kind: %v", counts)
	}
}

// TestTrees: what a tree tells, over those sums alone that it needs.
func TestTrees(t *testing.T) {
	for _, c := range []struct {
		list []sums.Sum
		used string
		tree string
	}{
		{[]sums.Sum{sum(1)}, "1", "f 1;"},
		{[]sums.Sum{sum(0), sum(2), sum(1)}, "010", "f 1;"},
		{[]sums.Sum{sum(-5, 0, 1), sum(3, -1), sum(-2, 1)}, "011", "f 1 1;"},
		{[]sums.Sum{sum(-1, 2, -2), sum(-9, 1), sum(1, -2, 2)}, "101", "c 1 0; c 0 1 0; f 0 0 1 1;"},
		{[]sums.Sum{sum(-2, 1, 1), sum(2, -1, -1), sum(-1, 1, -1), sum(1, -1, 1)}, "1111", "s 0 1 f 0 1 0 1 2; f 1 0 1 0 2;"},
	} {
		out := linear.Solve([]int{0, 1}, c.list, -1, true)
		used := ""
		for _, u := range out.Used() {
			used += map[bool]string{false: "0", true: "1"}[u]
		}
		if !out.Closed || used != c.used || out.Tree() != c.tree {
			t.Errorf("%v: %v, %q, %q; want %q, %q", c.list, out.Closed, used, out.Tree(), c.used, c.tree)
		}
	}
	if out := linear.Solve(nil, nil, 0, true); !out.Found || out.Closed || out.Spent != 0 {
		t.Errorf("nothing: %+v", out)
	}
}
