package solver_test

import (
	"fmt"
	"strings"
	"testing"

	"reason/solver"
)

// wantClauses asks of a line's head with each of these clauses, of which no literal can be spared: it is right with all of them, in either order, one twice or with one of no account; and wrong with one left out.
func wantClauses(t *testing.T, s *solver.Session, head string, clauses ...string) {
	t.Helper()
	for _, clause := range clauses {
		words := strings.Split(clause, " ")
		wantLines(t, s, head+" "+clause, true)
		wantLines(t, s, head+" "+clause+" +T0", true)
		wantLines(t, s, head+" -T0 "+clause, true)
		wantLines(t, s, head+" "+words[len(words)-1]+" "+clause, true)
		turned := ""
		for _, w := range words {
			turned = " " + w + turned
		}
		wantLines(t, s, head+turned, true)
		for i := range words {
			left := append(append([]string{head}, words[:i]...), words[i+1:]...)
			wantLines(t, s, strings.Join(left, " "), false)
			if head != "U" {
				// What counts for nothing does not stand in for it.
				wantLines(t, s, strings.Join(append(left, "+T0", "-T0"), " "), false)
			}
		}
	}
}

// TestP9D: each operator's clauses, and what is none of them. Term 0 is false.
func TestP9D(t *testing.T) {
	for _, c := range []struct {
		terms []string
		head  string
		right []string
		wrong []string
	}{
		{[]string{"true"}, "D 1", []string{"+T1"}, []string{"-T1"}},
		{[]string{"p"}, "D 1", []string{"+T1 -T1"}, nil},
		{[]string{"(g x a)"}, "D 3", []string{"+T3 -T3"}, []string{"+T3 +L1,1"}},
		{[]string{"(not p)"}, "D 2", []string{"-T2 -T1", "+T2 +T1"}, []string{"-T2 +T1", "+T2 -T1"}},
		{[]string{"(and p q)"}, "D 3", []string{"-T3 +T1", "-T3 +T2", "+T3 -T1 -T2"}, []string{"-T3 -T1", "+T1 +T2", "+T3 +T1 +T2", "+T3 +T1 -T2"}},
		{[]string{"(and p q (g x a) (not p))"}, "D 7", []string{"-T7 +T1", "-T7 +T2", "-T7 +T5", "-T7 +T6", "+T7 -T1 -T2 -T5 -T6"}, []string{"-T1 -T6", "+T1 +T6", "-T7"}},
		{[]string{"(and p p)"}, "D 2", []string{"-T2 +T1", "+T2 -T1"}, []string{"+T2 +T1", "-T2 -T1"}},
		{[]string{"(or p q)"}, "D 3", []string{"+T3 -T1", "+T3 -T2", "-T3 +T1 +T2"}, []string{"+T3 +T1", "-T1 -T2", "-T3 -T1 -T2"}},
		{[]string{"(or p q (g x a) (not p))"}, "D 7", []string{"+T7 -T1", "+T7 -T2", "+T7 -T5", "+T7 -T6", "-T7 +T1 +T2 +T5 +T6"}, []string{"+T1 +T6", "+T7", "-T7 +T1 +T6"}},
		{[]string{"(xor p q)"}, "D 3", []string{"-T3 +T1 +T2", "-T3 -T1 -T2", "+T3 -T1 +T2", "+T3 +T1 -T2"}, []string{"+T3 +T1 +T2", "-T3 +T1 -T2"}},
		{[]string{"(xor p p)"}, "D 2", []string{"-T2"}, []string{"+T2", "+T1", "+T2 +T1"}},
		{[]string{"(=> p q)"}, "D 3", []string{"+T3 +T1", "+T3 -T2", "-T3 -T1 +T2"}, []string{"+T3 -T1", "+T3 +T2", "-T3 +T1 -T2"}},
		{[]string{"(=> p p)"}, "D 2", []string{"+T2"}, []string{"-T2", "-T2 +T1", "-T2 -T1"}},
		{[]string{"(= p q)"}, "D 3", []string{"+T3 +T1 +T2", "+T3 -T1 -T2", "-T3 -T1 +T2", "-T3 +T1 -T2"}, []string{"-T3 +T1 +T2", "+T3 -T1 +T2"}},
		{[]string{"(= p p)"}, "D 2", []string{"+T2"}, []string{"-T2 +T1"}},
		{[]string{"(= x y)"}, "D 3", []string{"-T3 +E1,2", "+T3 -E1,2"}, []string{"+T3 +E1,2", "-T3 -E1,2", "-T3 +L1,2", "-T3 +L1,2 +L2,1"}},
		{[]string{"(= x y)", "(= y x)"}, "D 4", []string{"-T4 +E1,2", "+T4 -E1,2"}, []string{"-T3 +E1,2", "-T3 +T4"}},
		{[]string{"(= x x)"}, "D 2", []string{"+T2"}, []string{"-T2"}},
		{[]string{"(= a (f a))"}, "D 3", []string{"-T3 +E1,2", "+T3 -E1,2"}, []string{"+T3 +E1,2"}},
		{[]string{"(distinct x y)"}, "D 3", []string{"-T3 -E1,2", "+T3 +E1,2"}, []string{"+T3 -E1,2", "-T3 +E1,2"}},
		{[]string{"(distinct x y 5 6)"}, "D 5", []string{"-T5 -E1,2", "-T5 -E1,3", "-T5 -E1,4", "-T5 -E2,3", "-T5 -E2,4", "-T5 -E3,4", "+T5 +E1,2 +E1,3 +E1,4 +E2,3 +E2,4 +E3,4"}, []string{"-E1,2 -E2,3 +E1,3", "-E3,4", "+T5 -E1,2"}},
		{[]string{"(distinct x y x)"}, "D 3", []string{"-T3"}, []string{"+T3 +E1,2", "+T3"}},
		{[]string{"(distinct a (f a) (f (f a)))"}, "D 4", []string{"-T4 -E1,2", "-T4 -E1,3", "-T4 -E2,3", "+T4 +E1,2 +E1,3 +E2,3"}, []string{"-E1,2 +E2,3"}},
		{[]string{"(<= x y)"}, "D 3", []string{"-T3 +L1,2", "+T3 -L1,2"}, []string{"-T3 +L2,1", "+T3 -L2,1", "-T3 -L1,2", "+T3 +L2,1", "-T3 +E1,2"}},
		{[]string{"(>= x y)"}, "D 3", []string{"-T3 +L2,1", "+T3 -L2,1"}, []string{"-T3 +L1,2"}},
		{[]string{"(<= x x)"}, "D 2", []string{"-T2 +L1,1", "+T2 -L1,1"}, []string{"+T2", "+L1,1"}},
		{[]string{"(< x y)"}, "D 3", []string{"-T3 -L2,1", "+T3 +L2,1"}, []string{"-T3 +L1,2", "-T3 -L1,2", "+T3 +L1,2", "+T3 -L2,1", "-T3 -E1,2"}},
		{[]string{"(> x y)"}, "D 3", []string{"-T3 -L1,2", "+T3 +L1,2"}, []string{"-T3 -L2,1"}},
		{[]string{"(< x x)"}, "D 2", []string{"-T2 -L1,1", "+T2 +L1,1"}, []string{"-T2"}},
		{[]string{"(ite p q (g x a))"}, "D 6", []string{"-T6 -T1 +T2", "-T6 +T1 +T5", "+T6 -T1 -T2", "+T6 +T1 -T5", "-T6 +T2 +T5", "+T6 -T2 -T5"}, []string{"-T6 -T1 +T5", "-T6 +T1 +T2", "+T6 -T1 -T5", "+T6 +T1 -T2"}},
		{[]string{"(ite p q q)"}, "D 3", []string{"-T3 +T2", "+T3 -T2"}, []string{"-T3 +T1"}},
		{[]string{"(ite p p q)"}, "D 3", []string{"-T3 +T1 +T2", "+T3 -T1", "+T3 -T2"}, []string{"+T3 +T1"}},
		{[]string{"(= (ite p x y) 5)"}, "D 4", []string{"-T1 +E2,4", "+T1 +E3,4", "+E2,4 +E3,4"}, []string{"-T1 +E3,4", "+T1 +E2,4", "-E2,4 -E3,4", "-T1 -E3,4", "+T1 -E2,4"}},
		{[]string{"(= (ite p x x) 5)"}, "D 3", []string{"+E2,3"}, []string{"-E2,3", "-T1", "+T1"}},
		{[]string{"(= (ite p a (f a)) a)"}, "D 4", []string{"-T1 +E2,4", "+T1 +E3,4", "+E2,4 +E3,4"}, []string{"-T1 +E3,4", "+T1 +E2,4", "+T5 -T5", "-E2,3 +E2,4"}},
	} {
		s := refuted(t, c.terms...)
		wantClauses(t, s, c.head, c.right...)
		for _, wrong := range c.wrong {
			wantLines(t, s, c.head+" "+wrong, false)
		}
		wantLines(t, s, c.head, false)
	}
	s := refuted(t, "p")
	wantLines(t, s, "D 0 -T0", true)
	wantLines(t, s, "D 0 -T0 -T1", true)
	wantLines(t, s, "D 0 +T0", false)
	wantLines(t, s, "D 0 +T1 -T1", false)
	wantLines(t, s, "D 0", false)
	wantLines(t, s, "D", false)
	wantLines(t, s, "D -T0", false)
	wantLines(t, s, "D -T0 0", false)
	wantLines(t, s, "D 0 | -T0", false)
}

// TestP9DNone: of a term that is neither of Bool nor an `ite` no line D is right.
func TestP9DNone(t *testing.T) {
	// 1 x, 2 5, 3 (+ x 5), 4 (- x), 5 (* 5 x), 6 (h x x), 7 (distinct ..), 8 a, 9 (f a), 10 (= a (f a)), 11 p, 12 (ite p x 5), 13 (<= ..)
	s := refuted(t, "(distinct (+ x 5) (- x) (* 5 x) (h x x))", "(= a (f a))", "(<= 5 (ite p x 5))")
	for number := 0; number <= 14; number++ {
		want := false
		switch number {
		case 0, 7, 10, 11, 12, 13:
			want = true
		}
		wantLines(t, s, fmt.Sprintf("D %d +T0 -T0 +T7 -T7 +T10 -T10 +T11 -T11 +T13 -T13", number), want)
		wantLines(t, s, fmt.Sprintf("D %d +E1,2 -E1,2 +E8,9 -E8,9 +E1,3 -E1,3", number), number == 10)
	}
}

// TestP9Q: equal is at most, both ways.
func TestP9Q(t *testing.T) {
	// 1 x, 2 y, 3 (<= x y), 4 a, 5 (f a), 6 (= a (f a)), 7 p
	s := refuted(t, "(<= x y)", "(= a (f a))", "p")
	wantClauses(t, s, "Q 1 2", "-E1,2 +L1,2", "-E1,2 +L2,1", "+E1,2 -L1,2 -L2,1")
	for _, wrong := range []string{
		"Q 1 2", "Q 1 2 +L1,2 +L2,1", "Q 1 2 +E1,2 +L1,2 +L2,1", "Q 1 2 -E1,2 -L1,2 -L2,1", "Q 1 2 +E1,2 -L1,2 +L2,1", "Q 1 2 +E1,2 +L1,2 -L2,1", "Q 1 2 -E1,2 -L1,2", "Q 1 2 -E1,2 +L1,1", "Q 1 2 +T7 -T7", "Q 1 2 -L1,1 +L1,1",
		"Q 2 1 -E1,2 +L1,2", "Q 1 1 -L1,1 +L1,1", "Q 1 3 +T3 -T3", "Q 3 7 +T3 -T3", "Q 4 5 +E4,5 -E4,5", "Q 1 4 +E1,2 -E1,2", "Q 0 1 +E1,2 -E1,2", "Q 0 3 +T0 -T0",
		"Q", "Q 1", "Q 1 -E1,2 +L1,2", "Q -E1,2 +L1,2", "Q 1 2 3 -E1,2 +L1,2", "Q 1,2 -E1,2 +L1,2", "Q 1 8 +E1,2 -E1,2", "Q 8 9 +E1,2 -E1,2", "Q 1 2 -E1,2 +L1,2 |",
	} {
		wantLines(t, s, wrong, false)
	}
	wantLines(t, s, "Q 1 2 +E1,2 -E1,2", true)
	wantLines(t, s, "Q 1 2 +L2,1 -L2,1", true)
}

// TestP9U: the least congruence, over all terms.
func TestP9U(t *testing.T) {
	// 1 a, 2 (f a), 3 (f (f a)), 4 (f (f (f a))), 5 (distinct ..)
	s := refuted(t, "(distinct a (f a) (f (f a)) (f (f (f a))))")
	wantClauses(t, s, "U", "-E1,2 +E2,3", "-E1,2 +E3,4", "-E1,2 +E1,4", "-E1,2 +E1,3", "-E1,2 +E1,2", "-E1,3 +E2,4", "-E2,3 +E3,4", "-E2,3 +E2,4", "-E1,4 -E1,3 +E1,2")
	for _, wrong := range []string{"U", "U +E1,2", "U -E1,2", "U -E1,3 +E1,2", "U -E1,3 +E2,3", "U -E1,4 +E1,2", "U -E2,3 +E1,2", "U -E3,4 +E1,4", "U +E1,2 +E2,3", "U -E1,2 -E2,3", "U +E1,2 -E2,3", "U -T5 +T0", "U -E1,2 | +E2,3"} {
		wantLines(t, s, wrong, false)
	}
	// 1 x, 2 a, 3 (g x a), 4 y, 5 (f a), 6 (g y (f a)), 7 (h x y), 8 (h y x), 9 (< ..), 10 p, 11 q
	s = refuted(t, "(g x a)", "(g y (f a))", "(< (h x y) (h y x))", "p", "q")
	wantClauses(t, s, "U", "-E1,4 -E2,5 -T3 +T6", "-E1,4 -E2,5 -T6 +T3", "-T3 +T3", "-T10 +T10", "-E1,4 +E7,8", "-E1,4 -E4,7 +E1,8")
	for _, wrong := range []string{
		"U -E1,4 -T3 +T6", "U -E2,5 -T3 +T6", "U -E1,4 -E2,5 +T3 +T6", "U -E1,4 -E2,5 -T3 -T6", "U -E1,4 -E2,5 -T3", "U -E1,4 -E2,5 +T6", "U -T10 +T11", "U +T10 -T11", "U +T10", "U -T10", "U -T3 +T9", "U -T0 +T10",
		"U +L1,1", "U -L1,4 -L4,1 +E1,4", "U -L1,1 +L1,1", "U -E1,4 +L7,8", "U -E1,4 +L1,4", "U +L1,4 +L4,1", "U -L1,4 -L4,1 -E2,5 -T3 +T6",
	} {
		wantLines(t, s, wrong, false)
	}
	// One symbol with itself: not one operator with itself, nor numerals. 1 x, 2 5, 3 (+ x 5), 4 y, 5 (+ y 5), 6 (= ..), 7 (- x), 8 (- y), 9 (= ..), 10 p, 11 (ite p x 5), 12 (ite p y 5), 13 (= ..), 14 (* 5 x), 15 (* 5 y), 16 (= ..), 17 (= x y), 18 (= y x), 19 6, 20 (= 5 6)
	s = refuted(t, "(= (+ x 5) (+ y 5))", "(= (- x) (- y))", "(= (ite p x 5) (ite p y 5))", "(= (* 5 x) (* 5 y))", "(= x y)", "(= y x)", "(= 5 6)")
	for _, wrong := range []string{"U -E1,4 +E3,5", "U -E1,4 +E7,8", "U -E1,4 +E11,12", "U -E1,4 +E14,15", "U -E1,4 -T17 +T18", "U +E2,19", "U -E1,4 +T17", "U -T17 +E1,4"} {
		wantLines(t, s, wrong, false)
	}
	wantClauses(t, s, "U", "-E1,4 -E3,4 -E1,5 +E3,5", "-E2,19 +E2,19", "-E1,2 -E4,19 -E2,19 +E1,4")
	// What is congruent late makes terms congruent that stand ahead: 1 x, 2 (h x x), 3 y, 4 (h y y), 5 (= ..), 6 5, 7 (h 5 5), 8 6, 9 (h 6 6), 10 (= ..)
	s = refuted(t, "(= (h x x) (h y y))", "(= (h 5 5) (h 6 6))")
	wantClauses(t, s, "U", "-E6,8 -E1,7 -E3,9 +E2,4", "-E1,3 -E2,6 -E4,8 +E7,9")
	wantLines(t, s, "U -T0 +T0", true)
	// Two symbols are not one: 1 a, 2 (f a), 3 (= a (f a)) beside a symbol of the same sorts.
	two := session(t, "(declare-fun a () U)", "(declare-fun f (U) U)", "(declare-fun k (U) U)", "(assert false)", "(assert (= (f a) (k a)))")
	wantLines(t, two, "U +E2,3", false)
	wantLines(t, two, "U -E1,2 +E1,3", false)
	wantLines(t, two, "U -E1,2 -E1,3 +E2,3", true)
}

// TestP9Sums: how the terms of a line A are taken apart: a is at most b whatever the terms' values just if b less a is a number that is not below 0.
func TestP9Sums(t *testing.T) {
	for _, c := range []struct {
		a, b string
		want bool
	}{
		{"x", "x", true}, {"x", "y", false}, {"3", "3", true}, {"3", "4", true}, {"4", "3", false}, {"0", "99999999", true},
		{"(+ x y)", "(+ y x)", true}, {"(+ x y 2)", "(+ 3 x y)", true}, {"(+ x y 3)", "(+ 2 x y)", false}, {"(+ x x y 1)", "(+ x y 1 x)", true}, {"(+ x x y 1)", "(+ x y 1 y)", false},
		{"(+ 1 2)", "3", true}, {"(+ 1 2)", "2", false}, {"(+ x 0)", "x", true},
		{"(- x)", "(- 0 x)", true}, {"(- (- x))", "x", true}, {"(- x)", "x", false}, {"(- 5)", "(- 4)", true}, {"(- 4)", "(- 5)", false}, {"(- 5)", "5", true}, {"5", "(- 5)", false},
		{"(- x y)", "(+ x (- y))", true}, {"(- x y)", "(- y x)", false}, {"(- x x)", "0", true}, {"(- x 1)", "x", true}, {"x", "(- x 1)", false}, {"(- x (- y 1))", "(+ (- x y) 1)", true}, {"(- x (- y 1))", "(- (- x y) 1)", false},
		{"(* 3 x)", "(+ x x x)", true}, {"(* x 3)", "(+ x x x)", true}, {"(* 3 x)", "(+ x x)", false}, {"(* (- 3) x)", "(- (+ x x x))", true}, {"(* x (- 3))", "(- (+ x x))", false}, {"(* (- 3) x)", "(* 3 x)", false},
		{"(* 0 x)", "0", true}, {"(* 0 x)", "(* 0 y)", true}, {"(* 3 4)", "12", true}, {"13", "(* 3 4)", false}, {"(* 3 (- 4))", "(- 12)", true}, {"(* (- 3) (- 4))", "12", true}, {"(* (- 3) (- 4))", "11", false},
		{"(* 2 (+ x 3))", "(+ x x 6)", true}, {"(* 2 (+ x 3))", "(+ x x 5)", false}, {"(* 2 (* 3 x))", "(* 6 x)", true}, {"(* 2 (- x y))", "(- (* 2 x) (* 2 y))", true}, {"(* 1 x)", "x", true},
		{"(h x y)", "(h x y)", true}, {"(h x y)", "(h y x)", false}, {"(+ (h x y) 1)", "(+ 1 (h x y))", true}, {"(h (+ x 1) y)", "(h (+ 1 x) y)", false}, {"(* 2 (h x y))", "(+ (h x y) (h x y))", true},
		{"(ite p x y)", "(ite p x y)", true}, {"(ite p x x)", "x", false}, {"(ite true 1 2)", "2", false}, {"(- (ite p x y) (ite p x y))", "0", true}, {"(+ (ite p x y) 1)", "(- (ite p x y) (- 1))", true},
		{"(* 99999999 (* 99999999 (* 99999999 x)))", "(* 99999999 (* 99999999 (* 99999999 x)))", true},
		{"(* 99999999 (* 99999999 (* 99999999 x)))", "(* 99999999 (* 99999999 (* 99999998 x)))", false},
		{"(* 99999999 (* 99999999 (* 99999999 99999999)))", "(* 99999999 (* 99999999 (* 99999999 99999999)))", true},
		{"(+ (* 99999999 (* 99999999 (* 99999999 99999999))) 1)", "(* 99999999 (* 99999999 (* 99999999 99999999)))", false},
		{"(- (* 99999999 (* 99999999 (* 99999999 99999999))))", "(* 99999999 (* 99999999 (* 99999999 (- 99999999))))", true},
	} {
		s := session(t, append(append([]string{}, symbols...), "(assert false)", "(assert (<= "+c.a+" "+c.b+"))")...)
		a, b := ends(t, s)
		wantLines(t, s, fmt.Sprintf("A +L%d,%d | f 1;", a, b), c.want)
		wantLines(t, s, fmt.Sprintf("A +L%d,%d | s %d -7 f 1 0; f 1 0;", a, b, b), c.want)
		wantLines(t, s, fmt.Sprintf("A +L%d,%d +L%d,%d | f 1 1;", a, b, b, a), true)
		wantLines(t, s, fmt.Sprintf("A -L%d,%d +L%d,%d | f 1 1;", a, b, a, b), true)
	}
}

// ends finds the arguments of the term behind term 0 that is asserted, a `<=`, by the line D that is right of it.
func ends(t *testing.T, s *solver.Session) (int, int) {
	t.Helper()
	for last := 1; last < 80; last++ {
		if !s.Accepts(lines(fmt.Sprintf("F %d", last)) + closing) {
			continue
		}
		for a := 0; a < last; a++ {
			for b := 0; b < last; b++ {
				if s.Accepts(lines(fmt.Sprintf("D %d -T%d +L%d,%d", last, last, a, b)) + closing) {
					return a, b
				}
			}
		}
	}
	t.Fatalf("%q: no last term", s.Print())
	return 0, 0
}
