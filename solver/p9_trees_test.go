package solver_test

import (
	"fmt"
	"math/rand"
	"strings"
	"testing"
)

// TestP9Finish: the sums that literals give, and the words of an `f`. The stack's terms are 1: 3, 2: x, 3: (<= 3 x), 4: 2, 5: (<= x 2), 6: a, 7: (f a), 8: (= a (f a)).
func TestP9Finish(t *testing.T) {
	s := refuted(t, "(<= 3 x)", "(<= x 2)", "(= a (f a))")
	for _, right := range []string{
		"A -L1,2 -L2,4 | f 1 1;", "A -L2,4 -L1,2 | f 1 1;", "A -L1,2 -L2,4 | f 7 7;", "A -L1,2 -L2,4 +T3 | f 1 1;", "A +T3 -L1,2 -T5 +E1,2 -L2,4 | f 1 1;", "A -L1,2 -L2,4 -L1,2 | f 0 1 1;", "A -L1,2 -L2,4 -L1,2 | f 1 2 1;",
		// The literals are false: so x is at most 2 of +L1,2, and at least 3 of +L2,4.
		"A +L1,2 -L1,2 | f 1 1;", "A +L1,2 +L2,4 | f 1 1;", "A -L2,4 +L2,4 | f 1 1;", "A +L2,1 -L2,4 | f 1 1;", "A +L2,2 | f 1;", "A +L4,1 | f 1;", "A +L4,1 | f 99;", "A -L1,4 | f 1;",
		"A -E1,2 -L2,4 | f 1 0 1;", "A -L2,4 -E1,2 | f 1 1 0;", "A -E1,2 +L2,1 | f 0 1 1;", "A -E1,2 -E2,4 | f 1 0 1 0;", "A -E2,4 -E1,2 | f 1 0 1 0;", "A -E1,4 | f 1 0;", "A -E1,2 -L1,2 -L2,4 | f 0 0 1 1;", "A -E1,2 -L1,2 -L2,4 | f 5 5 1 1;",
		// Elements stand for themselves.
		"A -E6,7 -L1,2 -L2,4 | f 0 0 1 1;", "A -E6,7 -L1,2 -L2,4 | f 3 3 1 1;", "A +E6,7 -L1,2 -L2,4 | f 1 1;",
	} {
		wantLines(t, s, right, true)
	}
	for _, wrong := range []string{
		"A -L1,2 -L2,4 | f 1 2;", "A -L1,2 -L2,4 | f 2 1;", "A -L1,2 -L2,4 | f 0 0;", "A -L1,2 -L2,4 | f 1 0;", "A -L1,2 -L2,4 | f 0 1;", "A -L1,2 | f 1;", "A +L2,1 -L1,2 | f 1 1;", "A -L2,4 -L4,2 | f 1 1;", "A -L2,4 -L4,2 | f 9 9;", "A +L1,4 | f 1;", "A -L1,1 | f 1;", "A -L4,1 | f 1;", "A +L4,1 | f 0;",
		"A -E1,2 -L2,4 | f 0 1 1;", "A -E1,2 -L2,4 | f 1 1;", "A -E1,2 -L2,4 | f 1 1 1;", "A +E1,2 -L2,4 | f 1 1;", "A +E1,2 -L2,4 | f 1 0 1;", "A -E1,4 | f 0 1;", "A -E1,4 | f 1 1;", "A -E6,7 -L1,2 -L2,4 | f 1 0 1 1;", "A -T3 -T5 | f 1 1;", "A -T3 -T5 | f;", "A +E1,2 | f;",
		"A | f;", "A | f", "A |", "A", "A f;", "A -L1,2 -L2,4 f 1 1;", "A -L1,2 -L2,4 |", "A -L1,2 -L2,4 | ", "A -L1,2 | -L2,4 f 1 1;", "A -L1,2 -L2,4 | | f 1 1;", "A -L1,2 -L2,4 |f 1 1;", "A -L1,2 -L2,4| f 1 1;", "A | -L1,2 -L2,4 | f 1 1;", "A -L1,2 -L2,4  | f 1 1;", "A -L1,2 -L2,4 |  f 1 1;",
	} {
		wantLines(t, s, wrong, false)
	}
	for _, tree := range []string{
		"f", "f;", "f 1", "f 1;", "f 1 1", "f 1 1 ;", "f 1; 1", "f 1; 1;", "f 1 1;;", "f 1 1; ;", "f 1 1; 1", "f 1 1; f 1 1;", "f 1 2; f 1 1;", "f 1; f 1 1;", "f 0 0; f 1 1;", "f 1 1; x", "f 1 1; |", "f 1 1 1;", "f 1 1 0;", "f 1 1; 0;", "f 1 ;1", "f; 1 1;", "f 1  1;", "f 1 1; ", "F 1 1;", "f1 1;", "f 11;",
		"f 01 1;", "f 1 01;", "f 00 1;", "f +1 1;", "f -1 -1;", "f 1 -1;", "f -0 1;", "f 1 1.;", "f 1 x;", "f x 1;", "f a b;", "f 1, 1;", "f 1 1,", "f 1e0 1;", "g 1 1;", "1 1;", "ff 1 1;", "", ";", "s", "c", "c;", "s;", "-", "f ; ;", "f ;", "f 0x1 1;",
	} {
		wantLines(t, s, "A -L1,2 -L2,4 | "+tree, false)
	}
	great := strings.Repeat("7", 100)
	wantLines(t, s, "A -L1,2 -L2,4 | f "+great+" "+great+";", true)
	wantLines(t, s, "A -L1,2 -L2,4 | f "+great+" "+great[1:]+"8;", false)
	wantLines(t, s, "A -L1,2 -L2,4 | f 0"+great+" 0"+great+";", false)
	wantLines(t, s, "A -L1,2 -L2,4 | f 18446744073709551617 1;", false)
	wantLines(t, s, "A -L1,2 -L2,4 | f 4294967297 1;", false)
}

// TestP9Split: the words of an `s`, and the sums of its two trees. The stack's terms are as above, then 6: y, 7: (+ x y), 8: (<= ..), 9: p, 10: a, 11: (f a), 12: (= ..).
func TestP9Split(t *testing.T) {
	s := refuted(t, "(<= 3 x)", "(<= x 2)", "(<= 3 (+ x y))", "p", "(= a (f a))")
	for _, c := range []struct {
		tree string
		want bool
	}{
		{"s 2 2 f 1 0 1; f 0 1 1;", true}, {"s 2 0 f 1 1 0; f 1 1 0;", true}, {"s 2 -5 f 1 0 1; f 1 1 0;", true}, {"s 2 5 f 1 1 0; f 0 1 1;", true}, {"s 6 5 f 1 1 0; f 1 1 0;", true}, {"s 1 5 f 1 1 0; f 0 0 1;", true}, {"s 1 2 f 0 0 1; f 1 1 0;", true},
		{"s 2 7 s 2 2 f 1 0 0 1; f 0 1 0 1; f 0 1 1;", true}, {"s 2 -7 f 1 0 1; s 2 2 f 1 0 0 1; f 0 1 0 1;", true}, {"s 2 2 s 2 9 f 1 0 1 0; f 0 0 1 1; s 2 -9 f 0 0 1 1; f 0 1 1 0;", true},
		{"s 2 2 c 1 0 0; f 1 0 1 0; f 0 1 1;", true}, {"c 1 0; s 2 2 f 0 0 1 1; f 0 1 0 1;", true},
		{"s 2 1 f 1 0 1; f 0 1 1;", false}, {"s 2 3 f 1 0 1; f 0 1 1;", false}, {"s 2 2 f 0 1 1; f 1 0 1;", false}, {"s 2 2 f 1 0 1; f 1 0 1;", false}, {"s 2 2 f 0 1 1; f 0 1 1;", false},
		{"s 2 2 f 1 0 1;", false}, {"s 2 2", false}, {"s 2", false}, {"s", false}, {"s 2 2 f 1 0 1; f 0 1 1; f 0 1 1;", false}, {"s 2 2 f 1 0 1; f 0 1 1; x", false}, {"s 2 2 f 1 0; f 0 1;", false}, {"s 2 2 f 1 0 1; f 0 1 0 1;", false}, {"s 2 2 f 1 0 1; f 0 1;", false},
		{"s 2 2 c 1 0 0; f 1 0 1 0; f 0 1 1 0;", false}, {"s 2 2 s 2 2 f 1 0 1 0; f 0 0 1 1; f 0 1 1 0;", false},
		{"s 2 02 f 1 1 0; f 1 1 0;", false}, {"s 2 -0 f 1 1 0; f 1 1 0;", false}, {"s 2 +2 f 1 1 0; f 1 1 0;", false}, {"s 2 x f 1 1 0; f 1 1 0;", false}, {"s 2 2; f 1 1 0; f 1 1 0;", false}, {"s 2  2 f 1 1 0; f 1 1 0;", false}, {"s 2 - f 1 1 0; f 1 1 0;", false}, {"s 2 --2 f 1 1 0; f 1 1 0;", false}, {"s 2 2.0 f 1 1 0; f 1 1 0;", false}, {"s 2 f 1 1 0; f 1 1 0;", false},
		{"s 3 2 f 1 1 0; f 1 1 0;", false}, {"s 9 2 f 1 1 0; f 1 1 0;", false}, {"s 0 2 f 1 1 0; f 1 1 0;", false}, {"s 10 2 f 1 1 0; f 1 1 0;", false}, {"s 11 2 f 1 1 0; f 1 1 0;", false}, {"s 13 2 f 1 1 0; f 1 1 0;", false}, {"s 02 2 f 1 1 0; f 1 1 0;", false}, {"s -2 2 f 1 1 0; f 1 1 0;", false}, {"s x 2 f 1 1 0; f 1 1 0;", false}, {"s T2 2 f 1 1 0; f 1 1 0;", false}, {"s2 2 f 1 1 0; f 1 1 0;", false}, {"S 2 2 f 1 1 0; f 1 1 0;", false},
		{"s 3 2 f 1 1;", false}, {"s 13 2 f 1 1;", false}, {"s 2 x f 1 1;", false}, {"s 3 2 f 1 1; f 1 1;", false}, {"s 2 2 f 1 0 1; f 1 0 1; f 0 1 1;", false},
		{"s 4 2 f 1 1 0; f 1 1 0;", true}, {"s 7 2 f 1 1 0; f 1 1 0;", true},
	} {
		wantLines(t, s, "A -L1,2 -L2,4 | "+c.tree, c.want)
	}
	// V is taken apart: where x and y are at most 2, x + y is not at least 5.
	wantLines(t, s, "A -L2,4 -L6,4 +L7,1 -L7,1 | s 7 4 f 0 0 1 1 0; f 1 1 0 0 1;", true)
	wantLines(t, s, "A -L2,4 -L6,4 +L7,1 -L7,1 | s 7 3 f 0 0 1 1 0; f 1 1 0 0 1;", false)
	wantLines(t, s, "A -L2,4 -L6,4 +L7,1 -L7,1 | s 7 3 f 0 0 1 0 1; f 0 0 0 1 1;", true)
	wantLines(t, s, "A -L2,4 -L6,4 +L7,1 -L7,1 | s 7 4 f 0 0 1 1 0; f 1 1 0 1 1;", false)
	great := strings.Repeat("9", 60)
	wantLines(t, s, "A -L1,2 -L2,4 | s 2 "+great+" f 1 1 0; f 0 1 1;", true)
	wantLines(t, s, "A -L1,2 -L2,4 | s 2 "+great+" f 1 0 1; f 0 1 1;", false)
	wantLines(t, s, "A -L1,2 -L2,4 | s 2 -"+great+" f 1 0 1; f 1 1 0;", true)
	wantLines(t, s, "A -L1,2 -L2,4 | s 2 -"+great+" f 1 0 1; f 0 1 1;", false)
}

// TestP9Cut: the words of a `c`, and how its sum is divided and rounded. The stack's terms are 1: 3, 2: x, 3: (* 3 x), 4: 4, 5: (- 4), 6: (<= ..), 7: 1, 8: (- 1), 9: (<= ..), 10: 2, 11: (- 2), 12: (<= ..).
func TestP9Cut(t *testing.T) {
	s := refuted(t, "(<= (* 3 x) (- 4))", "(<= (- 1) x)", "(<= (- 2) x)")
	for _, c := range []struct {
		line string
		want bool
	}{
		// 3x + 4: x + 2.
		{"A -L3,5 -L8,2 | c 1 0; f 0 1 1;", true}, {"A -L3,5 -L11,2 | c 1 0; f 0 1 1;", false}, {"A -L8,2 -L3,5 | c 0 1; f 1 0 1;", true}, {"A -L3,5 -L8,2 | c 5 0; f 0 1 1;", true}, {"A -L3,5 -L11,2 | c 5 0; f 0 1 1;", false},
		// 3x - 4: x - 1.
		{"A -L3,4 -L10,2 | c 1 0; f 0 1 1;", true}, {"A -L3,4 -L7,2 | c 1 0; f 0 1 1;", false},
		// 3x - 3: x - 1; 3x - 2: x; 3x - 1: x.
		{"A -L3,1 -L10,2 | c 1 0; f 0 1 1;", true}, {"A -L3,1 -L7,2 | c 1 0; f 0 1 1;", false},
		{"A -L3,10 -L7,2 | c 1 0; f 0 1 1;", true}, {"A -L3,7 -L7,2 | c 1 0; f 0 1 1;", true}, {"A -L3,7 -L8,2 | c 1 0; f 0 1 1;", false}, {"A -L3,10 -L8,2 | c 1 0; f 0 1 1;", false},
		// 3x + 1, 3x + 2: x + 1.
		{"A -L3,8 -L8,2 | c 1 0; f 0 1 1;", false}, {"A -L3,11 -L8,2 | c 1 0; f 0 1 1;", false}, {"A -L3,8 -L7,2 | c 1 0; f 0 1 1;", true},
		// 4 - 3x: 2 - x; 3 - 3x: 1 - x; -4 - 3x: -1 - x.
		{"A -L4,3 -L2,7 | c 1 0; f 0 1 1;", true}, {"A -L4,3 -L2,10 | c 1 0; f 0 1 1;", false}, {"A -L1,3 -L2,7 | c 1 0; f 0 1 1;", false}, {"A -L5,3 -L2,11 | c 1 0; f 0 1 1;", true}, {"A -L5,3 -L2,8 | c 1 0; f 0 1 1;", false},
		// The sum of several: (3x - 4) + 3(1 - x) has no term; (3x - 4) + (1 - x): 2x - 3: x - 1.
		{"A -L3,4 -L7,2 -L10,2 | c 1 1 0; f 0 0 1 1;", true}, {"A -L3,4 -L7,2 -L10,2 | c 1 3 0; f 0 0 1 1;", false},
		// A sum that has no divisor stays as it is, and those ahead of it stay too.
		{"A -L8,2 -L2,11 | f 1 1;", true}, {"A -L8,2 -L2,11 | c 1 0; f 1 1 0;", true}, {"A -L8,2 -L2,11 | c 1 0; f 0 1 1;", true}, {"A -L8,2 -L2,11 | c 1 0; f 1 0 1;", false}, {"A -L8,2 -L2,11 | c 1 0; c 0 1 0; f 0 0 1 1;", true}, {"A -L8,2 -L2,11 | c 1 0; c 0 0 1; f 0 1 0 1;", true},
		// No term is left.
		{"A -L8,2 -L2,11 | c 0 0; f 1 1 0;", false}, {"A -L8,2 -L2,11 | c 1 1; f 1 1 0;", false}, {"A -L8,2 -L2,11 | c 1 1; f 1 1;", false}, {"A -L8,2 -L2,11 | c 0 0; f 1 1;", false}, {"A -L1,7 | c 1; f 1 0;", false}, {"A | c; f 1;", false}, {"A | c; f;", false}, {"A -T6 | c; f;", false},
		// Words that are none.
		{"A -L8,2 -L2,11 | c 1 0;", false}, {"A -L8,2 -L2,11 | c 1 0; f 1 1;", false}, {"A -L8,2 -L2,11 | c 1 0; f 1 1 0 0;", false}, {"A -L8,2 -L2,11 | c 1; f 1 1 0;", false}, {"A -L8,2 -L2,11 | c 1; f 1 1;", false}, {"A -L8,2 -L2,11 | c 1 0 0; f 1 1 0;", false}, {"A -L8,2 -L2,11 | c 1 0 f 1 1 0;", false}, {"A -L8,2 -L2,11 | c 1 0; ; f 1 1 0;", false}, {"A -L8,2 -L2,11 | c; 1 0; f 1 1 0;", false}, {"A -L8,2 -L2,11 | c 01 0; f 1 1 0;", false}, {"A -L8,2 -L2,11 | c -1 0; f 1 1 0;", false}, {"A -L8,2 -L2,11 | c 1 -0; f 1 1 0;", false}, {"A -L8,2 -L2,11 | c 1 x; f 1 1 0;", false}, {"A -L8,2 -L2,11 | C 1 0; f 1 1 0;", false}, {"A -L8,2 -L2,11 | c 1 0; f 1 1 0; f 1 1 0;", false}, {"A -L8,2 -L2,11 | c 1 0; f 1 1 0; 0", false}, {"A -L8,2 -L2,11 | c;", false}, {"A -L8,2 -L2,11 | c; f 1 1 0;", false},
	} {
		wantLines(t, s, c.line, c.want)
	}
	great := "1" + strings.Repeat("0", 80)
	wantLines(t, s, "A -L3,5 -L8,2 | c "+great+" 0; f 0 1 1;", true)
	wantLines(t, s, "A -L3,5 -L11,2 | c "+great+" 0; f 0 1 1;", false)
	// 1: 4, 2: x, 3: (* 4 x), 4: 6, 5: y, 6: (* 6 y), 7: (+ ..), 8: 3, 9: (- 3), 10: (<= ..), 11: 1, 12: (- 1), 13: 2, 14: (* 2 x), 15: (* 3 y), 16: (+ ..), 17: (<= ..): 4x + 6y + 3 is divided to 2x + 3y + 2.
	s = refuted(t, "(<= (+ (* 4 x) (* 6 y)) (- 3))", "(<= (- 1) (+ (* 2 x) (* 3 y)))")
	wantLines(t, s, "A -L7,9 -L12,16 | c 1 0; f 0 1 1;", true)
	wantLines(t, s, "A -L7,9 -L9,16 | c 1 0; f 0 1 1;", false)
	wantLines(t, s, "A -L7,9 -L12,16 | c 3 0; f 0 1 1;", true)
	wantLines(t, s, "A -L7,9 -L12,16 | c 1 0; f 0 1 2;", false)
}

// TestP9R: what follows from the clauses of the lines ahead.
func TestP9R(t *testing.T) {
	s := session(t, append(append([]string{}, symbols...), "(assert true)", "(assert (or p q))", "(assert (or (not p) q))", "(assert (or p (not q)))", "(assert (or (not p) (not q)))")...)
	// Terms: 0 true, 1 p, 2 q, 3 (or p q), 4 (not p), 5 (or (not p) q), 6 (not q), 7 (or p (not q)), 8 (or (not p) (not q)).
	ahead := "F 3/F 5/F 7/F 8/D 3 -T3 +T1 +T2/D 5 -T5 +T4 +T2/D 7 -T7 +T1 +T6/D 8 -T8 +T4 +T6/D 4 -T4 -T1/D 6 -T6 -T2/"
	for _, c := range []struct {
		text string
		want bool
	}{
		{"R +T1/R", true}, {"R +T2/R", true}, {"R -T1/R", true}, {"R -T2/R", true}, {"R +T4/R", true}, {"R +T1 +T2/R +T1/R", true}, {"R +T1/R -T1/R", true},
		{"R", false}, {"R +T1 -T1/R", false}, {"R +T2 +T1/R", false}, {"R +T1 +T0/R", false}, {"R +T1", false}, {"R +T0/R", false},
		{"R +T1 +T1/R", true}, {"R +T1 +E1,2/R", false}, {"R/R +T1/R", false},
	} {
		wantAccepts(t, s, lines(ahead+c.text), c.want)
	}
	// A line's clause counts for the lines behind it alone.
	wantAccepts(t, s, lines("R +T1/"+ahead+"R"), false)
	wantAccepts(t, s, lines("F 3/F 5/D 3 -T3 +T1 +T2/D 5 -T5 +T4 +T2/R +T2/F 7/F 8/D 7 -T7 +T1 +T6/D 8 -T8 +T4 +T6/D 4 -T4 -T1/D 6 -T6 -T2/R"), false)
	wantAccepts(t, s, lines("F 3/F 5/D 4 -T4 -T1/D 3 -T3 +T1 +T2/D 5 -T5 +T4 +T2/R +T2/F 7/F 8/D 7 -T7 +T1 +T6/D 8 -T8 +T4 +T6/D 6 -T6 -T2/R"), true)
	s = refuted(t, "p", "(or p q)", "(not q)")
	// Terms: 0 false, 1 p, 2 q, 3 (or p q), 4 (not q).
	for _, c := range []struct {
		text string
		want bool
	}{
		{"R +T1 -T1", true}, {"R -T1 +T2 +T1", true}, {"R +E1,2", false}, {"R", false}, {"R +T1", false}, {"R -T1", false},
		{"F 1/R +T1", true}, {"F 1/R +T1 +T1", true}, {"F 1/R +T2", false}, {"F 1/R -T1", false}, {"F 1/R +T2 +T1", true}, {"F 1/R", false},
		// The same literal twice is one.
		{"D 1 +T1 -T1 +T1/R +T1", false}, {"D 3 +T3 -T1 -T1/R -T1 +T3", true}, {"D 3 +T3 -T1 +T3 -T1/F 1/R +T3", true}, {"D 3 +T3 -T1 +T3 -T1/F 1/R +T3 +T3", true}, {"F 1/D 3 -T1 +T3/R -T1", false},
		// What was let be so for one line is not so for the next.
		{"D 3 -T3 +T1 +T2/R -T3 +T1 +T2/R +T1", false}, {"F 3/D 3 -T3 +T1 +T2/R +T1 +T2/R +T1", false}, {"F 3/F 4/D 4 -T4 -T2/D 3 -T3 +T1 +T2/R +T1/R -T2/R +T3", true}, {"F 3/F 4/D 4 -T4 -T2/D 3 -T3 +T1 +T2/R +T1/R -T2/R +T2", false},
		// A clause one of whose literals is so lets nothing be so.
		{"F 1/D 3 -T3 +T1 +T2/R -T3 +T2", false}, {"D 3 -T3 +T1 +T2/F 1/R -T3 +T2", false},
		// A clause with a literal and its opposite tells nothing.
		{"D 1 +T1 -T1/R", false}, {"D 3 +T3 -T3 +T1/R +T1", false},
	} {
		wantLines(t, s, c.text, c.want)
	}
	// Behind the empty clause everything follows.
	wantAccepts(t, s, lines("F 0/D 0 -T0/R/R +T2/R -T2/R +T1 -T2/R"), true)
	wantAccepts(t, s, lines("F 0/D 0 -T0/R +T2/R"), true)
	wantAccepts(t, s, lines("D 0 -T0/F 0/R -T2 +T1/R"), true)
	wantAccepts(t, s, lines("D 0 -T0/R -T2 +T1/F 0/R"), false)
	// Atoms of other kinds and of other terms are others: 0 x, 1 y, 2 (= x y), 3 (<= x y), 4 (<= y x), 5 (not (= x y)).
	s = session(t, symbols[0], symbols[1], "(assert (not (= x y)))", "(assert (<= x y))", "(assert (<= y x))")
	wantAccepts(t, s, lines("F 3/F 4/F 5/D 3 -T3 -T2/D 2 +T2 -E0,1/D 4 -T4 +L0,1/D 5 -T5 +L1,0/Q 0 1 +E0,1 -L0,1 -L1,0/R"), true)
	wantAccepts(t, s, lines("F 3/F 4/F 5/D 3 -T3 -T2/D 2 +T2 -E0,1/D 4 -T4 +L0,1/D 5 -T5 +L1,0/R"), false)
	wantAccepts(t, s, lines("F 3/F 4/D 3 -T3 -T2/D 2 +T2 -E0,1/D 4 -T4 +L0,1/Q 0 1 +E0,1 -L0,1 -L1,0/R"), false)
}

// TestP9Atoms: two literals are opposite just if they are of one atom.
func TestP9Atoms(t *testing.T) {
	s := refuted(t, "(<= x 3)", "(= a (f a))", "p", "q", "(g x a)")
	// 1 x, 2 3, 3 (<= x 3), 4 a, 5 (f a), 6 (= ..), 7 p, 8 q, 9 (g x a)
	atoms := []string{"T0", "T3", "T6", "T7", "T8", "T9", "E1,2", "E4,5", "L1,1", "L1,2", "L2,1", "L2,2"}
	for _, a := range atoms {
		for _, b := range atoms {
			wantLines(t, s, "R +"+a+" -"+b, a == b)
			wantLines(t, s, "R -"+a+" +"+b, a == b)
			wantLines(t, s, "R +"+a+" +"+b, false)
			wantLines(t, s, "R -"+a+" -"+b, false)
			wantLines(t, s, "Q 1 2 +L1,2 -L1,2 +"+a+"/R +"+b, false)
		}
	}
}

// TestP9Clauses: each kind of line but F adds its literals as a clause.
func TestP9Clauses(t *testing.T) {
	// 0 x, 1 y, 2 (<= x y), 3 (not ..), 4 a, 5 (f a), 6 (= a (f a)), 7 (f (f a)), 8 (= ..), 9 (not ..)
	s := session(t, append(append([]string{}, symbols...), "(assert (not (<= x y)))", "(assert (= a (f a)))", "(assert (not (= (f a) (f (f a)))))")...)
	// A: neither x <= y nor y <= x cannot be; so y <= x, and with x <= y they would be equal.
	wantAccepts(t, s, lines("F 3/D 3 -T3 -T2/D 2 +T2 -L0,1/A +L0,1 +L1,0 | f 1 1;/R +L1,0/Q 0 1 -E0,1 +L0,1/R -E0,1/R"), false)
	wantAccepts(t, s, lines("F 6/F 9/D 6 -T6 +E4,5/D 9 -T9 -T8/D 8 +T8 -E5,7/U -E4,5 +E5,7/R"), true)
	wantAccepts(t, s, lines("F 6/F 9/D 6 -T6 +E4,5/D 9 -T9 -T8/D 8 +T8 -E5,7/U -E4,5 +E5,7 +E4,7/R"), false)
	wantAccepts(t, s, lines("F 6/F 9/D 6 -T6 +E4,5/D 9 -T9 -T8/D 8 +T8 -E5,7/U -E4,5 +E5,7 +E4,7/U -E4,7 -E4,5 +E5,7/R"), true)
	for _, c := range []struct {
		line, then string
		want       bool
	}{
		{"A +L0,1 +L1,0 | f 1 1;", "R +L1,0", true}, {"A +L0,1 +L1,0 | f 1 1;", "R +L0,1", false}, {"", "R +L1,0", false},
		{"Q 0 1 -E0,1 +L0,1", "R -E0,1", true}, {"Q 0 1 -E0,1 +L1,0", "R -E0,1", false},
	} {
		ahead := "F 3/D 3 -T3 -T2/D 2 +T2 -L0,1/"
		if c.line != "" {
			ahead += c.line + "/"
		}
		// That the line is right shows where the stack can be refuted.
		tail := "F 6/F 9/D 6 -T6 +E4,5/D 9 -T9 -T8/D 8 +T8 -E5,7/U -E4,5 +E5,7/R"
		wantAccepts(t, s, lines(ahead+c.then+"/"+tail), c.want)
	}
}

// TestP9Long: texts of any length come to an end.
func TestP9Long(t *testing.T) {
	s := refuted(t, "(<= 3 x)", "(<= x 2)")
	many := 100000
	wantLines(t, s, "A -L1,2 -L2,4 | "+strings.Repeat("s 2 0 ", many)+"f;", false)
	wantLines(t, s, "A -L1,2 -L2,4 | "+strings.Repeat("s 2 0 ", many), false)
	wantLines(t, s, "A"+strings.Repeat(" -L1,2 -L2,4", many)+" | f"+strings.Repeat(" 1 1", many)+";", true)
	wantLines(t, s, "A"+strings.Repeat(" -L1,2 -L2,4", many)+" | f"+strings.Repeat(" 1 1", many)+"1;", false)
	nines := strings.Repeat("9", many)
	wantLines(t, s, "A -L1,2 -L2,4 | f "+nines+" "+nines+";", true)
	wantLines(t, s, "A -L1,2 -L2,4 | f "+nines+" "+nines+"9;", false)
	wantLines(t, s, "A -L1,2 -L2,4 | s 2 -"+nines+" f 1 0 1; c "+nines+" 0 0; f 0 1 0 1;", true)
	wantLines(t, s, "D 3"+strings.Repeat(" -T3 +T3", many), true)
	wantLines(t, s, "U"+strings.Repeat(" -E1,2 -T0 +T3", many)+" +E1,2", true)
	wantLines(t, s, "R"+strings.Repeat(" -T0 -T3", many)+" +T3", true)
	wantAccepts(t, s, strings.Repeat("F 3\n", many)+closing, true)
	wantAccepts(t, s, strings.Repeat("D 3 -T3 +L1,2\n", many)+"F 3\nR +L1,2\n"+closing, true)
	wantAccepts(t, s, closing+strings.Repeat("R\n", many), true)
	wantAccepts(t, s, strings.Repeat(" ", many)+"\n"+closing, false)
	wantAccepts(t, s, strings.Repeat("\n", many)+closing, false)
	// A tree as deep as it has leaves.
	depth := 300
	text := "A -L1,2 -L2,4 |" + strings.Repeat(" s 2 9", depth)
	for left := depth; left >= 0; left-- {
		sums := left
		if left < depth {
			sums++
		}
		text += " f 1 1" + strings.Repeat(" 0", sums) + ";"
	}
	wantLines(t, s, text, true)
	wantLines(t, s, text+" f 1 1 0;", false)
}

// TestP9Random: no text makes the call panic, whatever it is made of.
func TestP9Random(t *testing.T) {
	s := refuted(t, "(<= 3 x)", "(<= x 2)", "(= a (f a))", "(ite p q (distinct x y 3 2))")
	r := rand.New(rand.NewSource(9))
	words := strings.Split("F,D,Q,U,A,R,|,f,s,c,f;,c;,;,0,1,2,3,4,5,6,7,8,9,10,11,12,99,0;,1;,2;,-1,+T0,-T0,+T3,-T3,-T9,+L1,-L2", ",")
	words = append(words, "+E1,2", "-E1,2", "+L1,2", "-L1,2", "+L2,4", "-L2,4", "-E6,7", "+E6,7", "", "x", "\x00")
	for i := 0; i < 20000; i++ {
		text := ""
		for n := r.Intn(30); n >= 0; n-- {
			text += words[r.Intn(len(words))] + []string{" ", " ", " ", "\n"}[r.Intn(4)]
		}
		if s.Accepts(text) {
			t.Errorf("%q", text)
		}
		s.Accepts(text + closing)
	}
	before := fmt.Sprint(state(s))
	wantAccepts(t, s, closing, true)
	if after := state(s); after != before {
		t.Errorf("the stack became %q", after)
	}
}
