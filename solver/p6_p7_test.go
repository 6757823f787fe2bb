package solver_test

import (
	"testing"

	"reason/api"
)

func TestP6Form(t *testing.T) {
	for _, w := range []string{"push", "pop "} {
		do(t, session(t, "(push 2)"),
			step{"(" + w + " 1 1)", api.ErrForm, 0},
			step{"  (" + w + " () 1)", api.ErrForm, 2},
			step{"(" + w + " x)", api.ErrForm, len(w) + 2},
			step{"(" + w + " ())", api.ErrForm, len(w) + 2},
			step{"(" + w + " (1))", api.ErrForm, len(w) + 2},
			step{"(" + w + " 01)", api.ErrForm, len(w) + 2},
			step{"(" + w + " 00)", api.ErrForm, len(w) + 2},
			step{"(" + w + " -1)", api.ErrForm, len(w) + 2},
			step{"(" + w + " +1)", api.ErrForm, len(w) + 2},
			step{"(" + w + " 1x)", api.ErrForm, len(w) + 2},
			step{"(" + w + " 123456789)", api.ErrForm, len(w) + 2},
		)
	}
}

func TestP6Limits(t *testing.T) {
	s := session(t)
	do(t, s,
		step{"(pop)", api.ErrPop, 0},
		step{" (pop 1)", api.ErrPop, 1},
		step{"(pop 99999999)", api.ErrPop, 0},
		step{"(pop 0)", api.OK, 0},
		step{"(push 0)", api.OK, 0},
		step{"(push 5)", api.ErrFull, 0},
		step{" (push 99999999)", api.ErrFull, 1},
	)
	wantCounts(t, s, 0, 0)
	do(t, s, step{"(push 4)", api.OK, 0})
	wantCounts(t, s, 4, 0)
	do(t, s, step{"(push)", api.ErrFull, 0}, step{"(push 0)", api.OK, 0}, step{"(pop 5)", api.ErrPop, 0}, step{"(pop)", api.OK, 0})
	wantCounts(t, s, 3, 0)
	do(t, s, step{"(push 2)", api.ErrFull, 0}, step{"(push)", api.OK, 0}, step{"(pop 4)", api.OK, 0})
	wantCounts(t, s, 0, 0)
}

// TestP6Gone: with a level all goes that joined since it was pushed, and nothing else.
func TestP6Gone(t *testing.T) {
	s := session(t, "(declare-fun x () Int)", "(assert (= x 1))",
		"(push)", "(declare-fun y () U)", "(assert (= y y))",
		"(push 2)", "(assert (= x 2))", "(declare-fun z () Bool)",
		"(push)", "(assert z)")
	wantPrint(t, s, "(declare-fun x () Int)", "(assert (= x 1))", "(push)", "(declare-fun y () U)", "(assert (= y y))",
		"(push)", "(push)", "(declare-fun z () Bool)", "(assert (= x 2))", "(push)", "(assert z)")
	wantCounts(t, s, 4, 4)
	do(t, s, step{"(pop 2)", api.OK, 0}, step{"(assert z)", api.ErrName, 8})
	wantPrint(t, s, "(declare-fun x () Int)", "(assert (= x 1))", "(push)", "(declare-fun y () U)", "(assert (= y y))", "(push)")
	wantCounts(t, s, 2, 2)
	do(t, s, step{"(declare-fun z () Int)", api.OK, 0}, step{"(assert (= z x))", api.OK, 0}, step{"(pop 2)", api.OK, 0},
		step{"(assert (= y y))", api.ErrName, 11}, step{"(declare-fun y () Int)", api.OK, 0}, step{"(assert (< y x))", api.OK, 0})
	wantPrint(t, s, "(declare-fun x () Int)", "(declare-fun y () Int)", "(assert (= x 1))", "(assert (< y x))")
	wantCounts(t, s, 0, 2)
}

// TestP6Terms: the terms of a level that is gone leave their room, and one that was there before stays.
func TestP6Terms(t *testing.T) {
	s := fill(t, 70)
	do(t, s, step{"(push)", api.OK, 0},
		step{"(assert (distinct (+ x 1) (+ x 2) (+ x 3) (+ x 4)))", api.OK, 0},
		step{"(assert (= x 100))", api.OK, 0},
		step{"(assert (= x 101))", api.ErrFull, 8},
		step{"(pop)", api.OK, 0},
		step{"(assert (distinct (+ x 5) (+ x 6) (+ x 7) (+ x 8)))", api.OK, 0},
		step{"(assert (= x 1))", api.ErrFull, 8},
		step{"(assert (= x 100))", api.OK, 0})
}

func TestP7Print(t *testing.T) {
	s := session(t, "(push)")
	wantPrint(t, s, "(push)")
	do(t, s, step{"(push 2)", api.OK, 0})
	wantPrint(t, s, "(push)", "(push)", "(push)")
	do(t, s,
		step{"(assert  true)", api.OK, 0},
		step{"(declare-fun  f(Int   U) Bool)", api.OK, 0},
		step{"(assert true)", api.OK, 0},
		step{"(declare-fun c () U)", api.OK, 0},
		step{"(assert(f 00 c))", api.ErrName, 10},
		step{"(assert(f 0 c))", api.OK, 0},
		step{"(push)", api.OK, 0},
		step{"(assert (f 0 c))", api.OK, 0},
	)
	wantPrint(t, s, "(push)", "(push)", "(push)", "(declare-fun f (Int U) Bool)", "(declare-fun c () U)",
		"(assert true)", "(assert true)", "(assert (f 0 c))", "(push)", "(assert (f 0 c))")
	wantCounts(t, s, 4, 4)
}

// TestExamples: examples 1 to 5 of the document.
func TestExamples(t *testing.T) {
	s := session(t, "(declare-fun x () Int)", "(assert (>= 5 x))")
	wantPrint(t, s, "(declare-fun x () Int)", "(assert (<= x 5))")
	do(t, s,
		step{"(assert true))", api.ErrSyntax, 13},
		step{"(assert true", api.ErrSyntax, 12},
		step{"", api.ErrSyntax, 0},
		step{"()", api.ErrForm, 0},
		step{"(x)", api.ErrForm, 1},
		step{"(((((((((((((", api.ErrDepth, 12},
		step{"(declare-fun 9x () Int)", api.ErrName, 13},
		step{"(declare-fun f (Int V) U)", api.ErrSort, 20},
		step{"(declare-fun x Int Int)", api.ErrForm, 15},
		step{"(declare-fun y () Int)", api.OK, 0},
		step{"(assert x)", api.ErrSort, 8},
		step{"(assert (= (* x y) 3))", api.ErrLinear, 11},
		step{"(assert (= 007 x))", api.ErrName, 11},
		step{"(push 2)", api.OK, 0},
		step{"(pop 3)", api.ErrPop, 0},
		step{"(push 3)", api.ErrFull, 0},
	)
}
