package linear_test

import (
	"math/rand"
	"strings"
	"testing"

	"reason/linear"
	"reason/sums"
	"reason/whole"
)

// reader reads a tree, word by word.
type reader struct{ words []string }

func (r *reader) next() string {
	if len(r.words) == 0 {
		return ""
	}
	word := r.words[0]
	r.words = r.words[1:]
	return word
}

// mixed reads as many multiples as there are sums, and adds each sum so often.
func (r *reader) mixed(list []sums.Sum) (sums.Sum, bool) {
	total := sums.NewTotal(8)
	for i, s := range list {
		word := r.next()
		n, ok := whole.Parse(strings.TrimSuffix(word, ";"))
		if !ok || whole.Sign(n) < 0 || strings.HasSuffix(word, ";") != (i == len(list)-1) {
			return sums.Sum{}, false
		}
		total.Add(s, n)
	}
	return total.Sum(), true
}

// closes tells whether a tree shows that not all sums are at most 0.
func (r *reader) closes(list []sums.Sum) bool {
	list = list[:len(list):len(list)]
	switch r.next() {
	case "f":
		s, ok := r.mixed(list)
		return ok && len(s.Parts) == 0 && whole.Sign(s.Number) > 0
	case "c":
		s, ok := r.mixed(list)
		return ok && len(s.Parts) > 0 && r.closes(append(list, sums.Rounded(s)))
	case "s":
		word := r.next()
		if len(word) != 1 {
			return false
		}
		term := sums.Single(int(word[0] - '0'))
		bound, ok := whole.Parse(r.next())
		above := sums.Constant(whole.Add(bound, whole.From(1)))
		return ok && r.closes(append(list, sums.Minus(term, sums.Constant(bound), 8))) && r.closes(append(list, sums.Minus(above, term, 8)))
	}
	return false
}

// wantRight wants that what was found out is right.
func wantRight(t *testing.T, list []sums.Sum, out linear.Outcome) {
	t.Helper()
	if out.Found == out.Closed {
		t.Fatalf("%v: found %v, closed %v", list, out.Found, out.Closed)
	}
	if out.Found {
		if !fits(list, out.Values) {
			t.Fatalf("%v: %v", list, out.Values)
		}
		return
	}
	var needed []sums.Sum
	for i, used := range out.Used() {
		if used {
			needed = append(needed, list[i])
		}
	}
	r := reader{strings.Fields(out.Tree())}
	if !r.closes(needed) || len(r.words) > 0 {
		t.Fatalf("%v: the tree %q is not right", list, out.Tree())
	}
}

// TestWithoutBounds: values or a tree are found of terms without bounds too.
func TestWithoutBounds(t *testing.T) {
	r := rand.New(rand.NewSource(5))
	counts := [2]int{}
	for round := 0; round < 3000; round++ {
		var list []sums.Sum
		columns := []int{0, 1, 2, 3, 4}[:1+r.Intn(5)]
		for n := 1 + r.Intn(6); n > 0; n-- {
			var times []int
			for range columns {
				times = append(times, (r.Intn(19)-9)*r.Intn(2))
			}
			number := r.Intn(19) - 9
			list = append(list, sum(number, times...))
			if r.Intn(2) == 0 {
				for i := range times {
					times[i] = -times[i]
				}
				list = append(list, sum(-number-r.Intn(3), times...))
			}
		}
		out := linear.Solve(columns, list, 8192, false)
		wantRight(t, list, out)
		if out.Found {
			counts[1]++
		} else {
			counts[0]++
		}
		for most := 0; most < out.Spent; most++ {
			if again := linear.Solve(columns, list, most, false); again.Found || again.Closed || again.Spent <= most {
				t.Fatalf("%v: with %d of %d: %+v", list, most, out.Spent, again)
			}
		}
	}
	if counts[0] < 100 || counts[1] < 100 {
		t.Errorf("too few of a kind: %v", counts)
	}
}

// TestFaces: where terms can have many values each, and one more has no bound, values or a tree are found as well, within what may be spent.
func TestFaces(t *testing.T) {
	r := rand.New(rand.NewSource(7))
	counts := [2]int{}
	long := 0
	for round := 0; round < 400; round++ {
		columns := []int{0, 1, 2, 3}
		var list []sums.Sum
		for term := 0; term < 3; term++ {
			times := [4]int{}
			times[term] = 1
			list = append(list, sum(-20-r.Intn(40), times[:]...))
			times[term] = -1
			list = append(list, sum(0, times[:]...))
		}
		for n := 1 + r.Intn(2); n > 0; n-- {
			a, b, c, d := 20+r.Intn(80), 20+r.Intn(80), -20-r.Intn(80), r.Intn(2)*210
			number := r.Intn(400) - 200
			list = append(list, sum(number, a, b, c, d))
			list = append(list, sum(-number-r.Intn(3), -a, -b, -c, -d))
		}
		out := linear.Solve(columns, list, 8192, false)
		wantRight(t, list, out)
		if out.Found {
			counts[1]++
		} else {
			counts[0]++
		}
		if out.Spent > 50 {
			long++
		}
	}
	if counts[0] < 20 || counts[1] < 50 || long < 20 {
		t.Errorf("too few of a kind: %v, %d long", counts, long)
	}
}
