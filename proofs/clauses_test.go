package proofs

import (
	"math/rand"
	"testing"

	"reason/atoms"
)

// refuteSlowly is what P9 says of a line R, word for word.
func refuteSlowly(known [][]int, literals []int) bool {
	so := map[int]bool{}
	for _, code := range literals {
		so[atoms.Opposite(code)] = true
	}
	for {
		for code := range so {
			if so[atoms.Opposite(code)] {
				return true
			}
		}
		grown := false
		for _, clause := range known {
			left := map[int]bool{}
			isSo := false
			for _, code := range clause {
				isSo = isSo || so[code]
				if !so[atoms.Opposite(code)] {
					left[code] = true
				}
			}
			if isSo || len(left) > 1 {
				continue
			}
			if len(left) == 0 {
				return true
			}
			for code := range left {
				so[code] = true
			}
			grown = true
		}
		if !grown {
			return false
		}
	}
}

// TestClauses compares what follows from clauses, as more and more of them join, with what the words of P9 say.
func TestClauses(t *testing.T) {
	r := rand.New(rand.NewSource(1))
	outcomes := [2]int{}
	for round := 0; round < 3000; round++ {
		codes := 2 * (2 + r.Intn(12))
		most := 1 + r.Intn(5)
		pick := func(most int) []int {
			var list []int
			for n := r.Intn(most + 1); n > 0; n-- {
				list = append(list, r.Intn(codes))
			}
			return list
		}
		k := newClauses(codes)
		var known [][]int
		for n := 0; n < 60; n++ {
			literals := pick(3)
			want := refuteSlowly(known, literals)
			if got := k.refute(literals); got != want {
				t.Fatalf("%v behind %v: got %v, want %v", literals, known, got, want)
			}
			if want {
				outcomes[1]++
			} else {
				outcomes[0]++
			}
			clause := pick(most)
			if len(clause) < 2 && r.Intn(10) > 0 {
				continue
			}
			before := append([]int{}, clause...)
			k.add(clause)
			known = append(known, before)
		}
	}
	if outcomes[0] < 10000 || outcomes[1] < 10000 {
		t.Errorf("too few of one kind: %v", outcomes)
	}
}
