package solver_test

import (
	"fmt"
	"strings"
	"testing"

	"reason/api"
	"reason/solver"
)

func TestP5Form(t *testing.T) {
	do(t, session(t, symbols...),
		step{"(assert)", api.ErrForm, 0},
		step{" (assert p q)", api.ErrForm, 1},
		step{"(assert zz ())", api.ErrForm, 0},
		step{"(assert ())", api.ErrForm, 8},
		step{"(assert ( ))", api.ErrForm, 8},
		step{"(assert (not ()))", api.ErrForm, 13},
		step{"(assert ((f) a))", api.ErrForm, 9},
		step{"(assert ( () ))", api.ErrForm, 10},
		step{"(assert (not ((p))))", api.ErrForm, 14},
	)
}

func TestP5Words(t *testing.T) {
	s := session(t, symbols...)
	do(t, s,
		step{"(assert x)", api.ErrSort, 8},
		step{"(assert 5)", api.ErrSort, 8},
		step{"(assert a)", api.ErrSort, 8},
		step{"(assert g)", api.ErrSort, 8},
		step{"(assert (= f a))", api.ErrSort, 11},
		step{"(assert z)", api.ErrName, 8},
		step{"(assert P)", api.ErrName, 8},
		step{"(assert True)", api.ErrName, 8},
		step{"(assert and)", api.ErrName, 8},
		step{"(assert -)", api.ErrName, 8},
		step{"(assert Bool)", api.ErrName, 8},
		step{"(assert assert)", api.ErrName, 8},
		step{"(assert (= x 007))", api.ErrName, 13},
		step{"(assert (= x 00))", api.ErrName, 13},
		step{"(assert (= x -1))", api.ErrName, 13},
		step{"(assert (= x 1a))", api.ErrName, 13},
		step{"(assert (= x 123456789))", api.ErrName, 13},
		step{"(assert true)", api.OK, 0},
		step{"(assert false)", api.OK, 0},
		step{"(assert p)", api.OK, 0},
		step{"(assert (= x 0))", api.OK, 0},
		step{"(assert (= x 10))", api.OK, 0},
		step{"(assert (= x 12345678))", api.OK, 0},
		step{"(assert (= x 99999999))", api.OK, 0},
	)
	wantPrint(t, s, append(append([]string{}, symbols...), "(assert true)", "(assert false)", "(assert p)",
		"(assert (= x 0))", "(assert (= x 10))", "(assert (= x 12345678))", "(assert (= x 99999999))")...)
}

// TestP5Order: a list's first item, then its arguments from the left, then the whole.
func TestP5Order(t *testing.T) {
	do(t, session(t, symbols...),
		step{"(assert (zz ()))", api.ErrName, 9},
		step{"(assert (5 x))", api.ErrName, 9},
		step{"(assert (true))", api.ErrName, 9},
		step{"(assert (Int x))", api.ErrName, 9},
		step{"(assert (assert p))", api.ErrName, 9},
		step{"(assert (not x zz))", api.ErrName, 15},
		step{"(assert (p zz))", api.ErrName, 11},
		step{"(assert (and (not x) zz))", api.ErrSort, 13},
		step{"(assert (and zz (not x)))", api.ErrName, 13},
		step{"(assert (= (* x y) zz))", api.ErrLinear, 11},
		step{"(assert (= a (* x y)))", api.ErrLinear, 13},
		step{"(assert (+ x p))", api.ErrSort, 8},
		step{"(assert (+ x y))", api.ErrSort, 8},
		step{"(assert ( not x))", api.ErrSort, 8},
		step{"(assert\n x)", api.ErrSort, 9},
	)
}

func TestP5Symbols(t *testing.T) {
	s := session(t, symbols...)
	do(t, s,
		step{"(assert (p))", api.ErrSort, 8},
		step{"(assert (p q))", api.ErrSort, 8},
		step{"(assert (not (p)))", api.ErrSort, 13},
		step{"(assert (= (x) 3))", api.ErrSort, 11},
		step{"(assert (g))", api.ErrSort, 8},
		step{"(assert (g x))", api.ErrSort, 8},
		step{"(assert (g a x))", api.ErrSort, 8},
		step{"(assert (g x a a))", api.ErrSort, 8},
		step{"(assert (= a (f x)))", api.ErrSort, 13},
		step{"(assert (= x (h x a)))", api.ErrSort, 13},
		step{"(assert (f a))", api.ErrSort, 8},
		step{"(assert (g (h x 3) (f a)))", api.OK, 0},
	)
	wantCounts(t, s, 0, 1)
}

// TestP5Operators: each operator at all lists of up to five arguments of the three sorts, against the document's list.
func TestP5Operators(t *testing.T) {
	s := session(t, symbols...)
	for _, op := range strings.Fields("not and or xor => = distinct <= < >= > ite + - *") {
		var walk func(sorts string)
		walk = func(sorts string) {
			sort, e := operatorRule(op, sorts)
			checkOperator(t, s, op, sorts, sort, e)
			if len(sorts) < 5 {
				walk(sorts + "B")
				walk(sorts + "I")
				walk(sorts + "U")
			}
		}
		walk("")
	}
}

// operatorRule tells the sort that the document gives, or the error.
func operatorRule(op, sorts string) (byte, api.Errno) {
	n := len(sorts)
	all := func(c string, least, most int) bool {
		return n >= least && n <= most && sorts == strings.Repeat(c, n)
	}
	ok, sort := false, byte('B')
	switch op {
	case "not":
		ok = sorts == "B"
	case "and", "or":
		ok = all("B", 2, 4)
	case "xor", "=>":
		ok = sorts == "BB"
	case "=":
		ok = sorts == "BB" || sorts == "II" || sorts == "UU"
	case "distinct":
		ok = all("I", 2, 4) || all("U", 2, 4)
	case "<=", "<", ">=", ">":
		ok = sorts == "II"
	case "ite":
		ok = sorts == "BBB" || sorts == "BII" || sorts == "BUU"
		if ok {
			sort = sorts[1]
		}
	case "+":
		ok, sort = all("I", 2, 4), 'I'
	case "-":
		ok, sort = all("I", 1, 2), 'I'
	case "*":
		if sorts == "II" {
			return 0, api.ErrLinear
		}
	}
	if !ok {
		return 0, api.ErrSort
	}
	return sort, api.OK
}

// checkOperator asserts `(= term leaf)`, so that the term's own sort shows.
func checkOperator(t *testing.T, s *solver.Session, op, sorts string, sort byte, e api.Errno) {
	t.Helper()
	text := "(" + op
	for _, c := range sorts {
		text += map[rune]string{'B': " p", 'I': " x", 'U': " a"}[c]
	}
	text += ")"
	for leafSort, leaf := range map[byte]string{'B': "q", 'I': "y", 'U': "a"} {
		want := step{"(assert (= " + text + " " + leaf + "))", e, 11}
		if e == api.OK && leafSort != sort {
			want.e, want.pos = api.ErrSort, 8
		}
		if e == api.OK && leafSort == sort {
			want.pos = 0
			do(t, s, step{"(push)", api.OK, 0}, want, step{"(pop)", api.OK, 0})
			continue
		}
		do(t, s, want)
	}
}

func TestP5Linear(t *testing.T) {
	s := session(t, symbols...)
	do(t, s,
		step{"(assert (= (* x y) 3))", api.ErrLinear, 11},
		step{"(assert (= (* x x) 3))", api.ErrLinear, 11},
		step{"(assert (= (* x (+ 1 2)) 3))", api.ErrLinear, 11},
		step{"(assert (= (* (- x) y) 3))", api.ErrLinear, 11},
		step{"(assert (= (* (- 3 2) x) 3))", api.ErrLinear, 11},
		step{"(assert (= (* (- (- 3)) x) 3))", api.ErrLinear, 11},
		step{"(assert (= (* (* 2 3) x) 3))", api.ErrLinear, 11},
		step{"(assert (= (* x a) 3))", api.ErrSort, 11},
		step{"(assert (= (* 2 x y) 3))", api.ErrSort, 11},
		step{"(assert (= (* 2) 3))", api.ErrSort, 11},
		step{"(assert (= (* 2 x) (* x 2)))", api.OK, 0},
		step{"(assert (= (* (- 2) x) (* x (- 2))))", api.OK, 0},
		step{"(assert (= (* 2 (- 3)) (* (- 3) 2)))", api.OK, 0},
		step{"(assert (= (* (+ 1 2) 3) (* (- x) 0)))", api.OK, 0},
		step{"(assert (= (* (- 2) (- 3)) (* 5 4)))", api.OK, 0},
	)
	wantPrint(t, s, append(append([]string{}, symbols...),
		"(assert (= (* 2 x) (* 2 x)))",
		"(assert (= (* (- 2) x) (* (- 2) x)))",
		"(assert (= (* 2 (- 3)) (* (- 3) 2)))",
		"(assert (= (* 3 (+ 1 2)) (* 0 (- x))))",
		"(assert (= (* (- 2) (- 3)) (* 5 4)))")...)
}

func TestP5Printed(t *testing.T) {
	for _, c := range [][2]string{
		{"(and p(not q)\n p   q)", "(and p (not q) p q)"},
		{"(>= x y)", "(<= y x)"},
		{"(> x y)", "(< y x)"},
		{"(<= x y)", "(<= x y)"},
		{"(< x y)", "(< x y)"},
		{"(not (>= (ite (> 1 2) x y) (* y 7)))", "(not (<= (* 7 y) (ite (< 2 1) x y)))"},
		{"(= x y)", "(= x y)"},
		{"(= y x)", "(= y x)"},
		{"(=> p (xor q true))", "(=> p (xor q true))"},
		{"(distinct a (f a) (f (f a)))", "(distinct a (f a) (f (f a)))"},
		{"(or p (g (- x) a) (= (- x y) (+ x y 1 2)) false)", "(or p (g (- x) a) (= (- x y) (+ x y 1 2)) false)"},
	} {
		s := session(t, symbols...)
		do(t, s, step{"(assert " + c[0] + ")", api.OK, 0})
		wantPrint(t, s, append(append([]string{}, symbols...), "(assert "+c[1]+")")...)
	}
}

// fill makes a session in which just n terms are listed, x and the numerals from 100 on among them, and at most 11 are asserted.
func fill(t *testing.T, n int) *solver.Session {
	t.Helper()
	s := session(t, "(declare-fun x () Int)", "(declare-fun b () Bool)", "(declare-fun c () Bool)")
	count, number := 1, 100
	for count+9 <= n {
		do(t, s, step{fmt.Sprintf("(assert (distinct (+ x %d) (+ x %d) (+ x %d) (+ x %d)))", number, number+1, number+2, number+3), api.OK, 0})
		count, number = count+9, number+4
	}
	for count+4 <= n {
		do(t, s, step{fmt.Sprintf("(assert (= (+ x %d) %d))", number, number+1), api.OK, 0})
		count, number = count+4, number+2
	}
	for count+2 <= n {
		do(t, s, step{fmt.Sprintf("(assert (= x %d))", number), api.OK, 0})
		count, number = count+2, number+1
	}
	if count < n {
		do(t, s, step{"(assert b)", api.OK, 0})
	}
	return s
}

func TestP5FullTerms(t *testing.T) {
	do(t, fill(t, 80),
		step{"(assert true)", api.ErrFull, 8},
		step{"(assert false)", api.ErrFull, 8},
		step{"(assert c)", api.ErrFull, 8},
		step{"(assert (= x 5))", api.ErrFull, 13},
		step{"(assert (= x x))", api.ErrFull, 8},
		step{"(assert (< x x))", api.ErrFull, 8},
		step{"(assert (= (* x x) x))", api.ErrLinear, 11},
		step{"(assert (not x))", api.ErrSort, 8},
		step{"(assert (+ x 100))", api.ErrSort, 8},
		step{"(assert zz)", api.ErrName, 8},
		step{"(assert (distinct (+ x 100) (+ x 101) (+ x 102) (+ x 103)))", api.OK, 0},
	)
	do(t, fill(t, 79),
		step{"(assert (= x 5))", api.ErrFull, 8},
		step{"(assert (not (= x x)))", api.ErrFull, 8},
		step{"(assert (>= 100 101))", api.OK, 0},
		step{"(assert (<= 101 100))", api.OK, 0},
		step{"(assert (<= 100 101))", api.ErrFull, 8},
		step{"(assert 5)", api.ErrFull, 8},
	)
	do(t, fill(t, 78),
		step{"(assert (= (* 100 x) (* x 100)))", api.OK, 0},
		step{"(assert (= (* x 100) (* x 100)))", api.OK, 0},
		step{"(assert (= x x))", api.ErrFull, 8},
	)
}

// TestP5TakenOut: the terms that joined ahead of a fault take no room.
func TestP5TakenOut(t *testing.T) {
	s := fill(t, 78)
	for _, c := range []step{
		{"(assert (+ 1 2))", api.ErrFull, 8},
		{"(assert (= 1 zz))", api.ErrName, 13},
		{"(assert (not 1))", api.ErrSort, 8},
		{"(assert (- x))", api.ErrSort, 8},
		{"(assert (= x (* x (+ x 100))))", api.ErrLinear, 13},
		{"(assert (= (- x) ()))", api.ErrForm, 17},
		{"(assert (= (= x 100) 9))", api.ErrSort, 8},
	} {
		do(t, s, c, c)
	}
	do(t, s, step{"(assert (= x 9))", api.OK, 0}, step{"(assert (= x 8))", api.ErrFull, 13})
}

func TestP5FullHeld(t *testing.T) {
	s := session(t, "(declare-fun p () Bool)")
	for range 6 {
		do(t, s, step{"(assert p)", api.OK, 0})
	}
	do(t, s, step{"(push)", api.OK, 0})
	for range 6 {
		do(t, s, step{"(assert (not p))", api.OK, 0})
	}
	wantCounts(t, s, 1, 12)
	do(t, s,
		step{"(assert p)", api.ErrFull, 0},
		step{" (assert (and p p))", api.ErrFull, 1},
		step{"(assert 5)", api.ErrSort, 8},
		step{"(assert z)", api.ErrName, 8},
		step{"(pop)", api.OK, 0},
		step{"(assert (and p p))", api.OK, 0},
	)
	wantCounts(t, s, 0, 7)
}
