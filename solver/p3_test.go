package solver_test

import (
	"math"
	"strings"
	"testing"

	"reason/api"
)

func TestP3New(t *testing.T) {
	s := session(t)
	wantPrint(t, s)
	wantCounts(t, s, 0, 0)
}

func TestP3Budget(t *testing.T) {
	s := session(t)
	for _, c := range []struct {
		budget int
		e      api.Errno
	}{
		{math.MinInt, api.ErrArg}, {-1, api.ErrArg}, {0, api.OK}, {1, api.OK}, {8191, api.OK}, {8192, api.OK}, {8193, api.ErrArg}, {math.MaxInt, api.ErrArg},
	} {
		r := s.Do("(push 0)", c.budget)
		if r.E != c.e || r.Pos != 0 || !plain(r) {
			t.Errorf("budget %d: %+v", c.budget, r)
		}
	}
	if r := s.Do("  x", -1); r.E != api.ErrArg || r.Pos != 0 {
		t.Errorf("a bad budget with a bad text: %+v", r)
	}
}

func TestP3Long(t *testing.T) {
	s := session(t)
	do(t, s,
		step{"(push)" + strings.Repeat(" ", 394), api.OK, 0},
		step{"(push)" + strings.Repeat(" ", 395), api.ErrLong, 0},
		step{strings.Repeat("\n", 394) + "(push)", api.OK, 0},
		step{strings.Repeat("\n", 395) + "(push)", api.ErrLong, 0},
		step{strings.Repeat("x", 401), api.ErrLong, 0},
		step{strings.Repeat("x", 400), api.ErrSyntax, 0},
		step{strings.Repeat(" ", 400), api.ErrSyntax, 400},
		step{"(" + strings.Repeat("p", 399), api.ErrSyntax, 400},
		step{"(" + strings.Repeat("p", 398) + ")", api.ErrForm, 1},
	)
	wantCounts(t, s, 2, 0)
}

// TestP3Bytes: which bytes may stand within a list, ahead of it and behind.
func TestP3Bytes(t *testing.T) {
	const inWords = "abcdefghijklmnopqrstuvwxyzABCDEFGHIJKLMNOPQRSTUVWXYZ0123456789-+*<>="
	s := session(t)
	for c := range 256 {
		b := string([]byte{byte(c)})
		within, outside := step{"(push " + b + "x)", api.ErrSyntax, 6}, api.ErrSyntax
		switch {
		case strings.Contains(inWords, b):
			within.e = api.ErrForm
		case b == " " || b == "\n":
			within.e, within.pos, outside = api.ErrForm, 7, api.OK
		case b == "(":
			within.pos = 9 // it is not closed
		case b == ")":
			within.pos = 7 // the x behind the list
		}
		do(t, s, within)
		if outside == api.OK {
			do(t, s, step{b + "(push 0)", api.OK, 0}, step{"(push 0)" + b, api.OK, 0}, step{"(push" + b + "0)", api.OK, 0})
			continue
		}
		behind := step{"(push 0)" + b, api.ErrSyntax, 8}
		ahead := step{b + "(push 0)", api.ErrSyntax, 0}
		if b == "(" {
			ahead.pos, ahead.e = 1, api.ErrForm
			ahead.text = "((push 0))"
		}
		do(t, s, behind, ahead)
	}
}

func TestP3Syntax(t *testing.T) {
	do(t, session(t),
		step{"", api.ErrSyntax, 0},
		step{"   ", api.ErrSyntax, 3},
		step{"x", api.ErrSyntax, 0},
		step{" x", api.ErrSyntax, 1},
		step{")", api.ErrSyntax, 0},
		step{"(", api.ErrSyntax, 1},
		step{"( ", api.ErrSyntax, 2},
		step{"(assert true))", api.ErrSyntax, 13},
		step{"(assert true", api.ErrSyntax, 12},
		step{"(assert (not true)", api.ErrSyntax, 18},
		step{"(assert true)  (assert true)", api.ErrSyntax, 15},
		step{"(assert true) x", api.ErrSyntax, 14},
		step{"()()", api.ErrSyntax, 2},
		step{"()x", api.ErrSyntax, 2},
		step{"(assert tr\tue)", api.ErrSyntax, 10},
		step{"(assert true)\r\n", api.ErrSyntax, 13},
		step{"(assert true)\x00", api.ErrSyntax, 13},
		step{"(asse_rt true)", api.ErrSyntax, 5},
		step{"(assert é", api.ErrSyntax, 8},
		step{"\n(assert(not(not\ntrue) ) ) \n", api.OK, 0},
	)
}

func TestP3Depth(t *testing.T) {
	twelve := "(assert " + strings.Repeat("(not ", 11) + "true" + strings.Repeat(")", 12)
	thirteen := "(assert " + strings.Repeat("(not ", 12) + "true" + strings.Repeat(")", 13)
	do(t, session(t),
		step{strings.Repeat("(", 12), api.ErrSyntax, 12},
		step{strings.Repeat("(", 13), api.ErrDepth, 12},
		step{strings.Repeat("( ", 13), api.ErrDepth, 24},
		step{strings.Repeat("(", 12) + strings.Repeat(")", 12), api.ErrForm, 1},
		step{strings.Repeat("(", 12) + ")()", api.ErrSyntax, 15},
		step{strings.Repeat("(", 12) + ")(()", api.ErrDepth, 14},
		step{"(push) " + strings.Repeat("(", 13), api.ErrSyntax, 7},
		step{twelve, api.OK, 0},
		step{thirteen, api.ErrDepth, 63},
	)
}

func TestP3Form(t *testing.T) {
	s := session(t)
	do(t, s,
		step{"()", api.ErrForm, 0},
		step{" \n()", api.ErrForm, 2},
		step{"( )", api.ErrForm, 0},
		step{"(x)", api.ErrForm, 1},
		step{"( x)", api.ErrForm, 2},
		step{"(Assert true)", api.ErrForm, 1},
		step{"(assertx true)", api.ErrForm, 1},
		step{"(true)", api.ErrForm, 1},
		step{"(not true)", api.ErrForm, 1},
		step{"(check-sa)", api.ErrForm, 1},
		step{"((reset))", api.ErrForm, 1},
		step{"( () reset)", api.ErrForm, 2},
		step{"(reset 1)", api.ErrForm, 0},
		step{"  (reset ())", api.ErrForm, 2},
		step{"(check-sat 1)", api.ErrForm, 0},
		step{" (check-sat (check-sat))", api.ErrForm, 1},
	)
}

func TestP3Reset(t *testing.T) {
	s := session(t, "(declare-fun x () Bool)", "(assert x)", "(push)", "(declare-fun y () Int)", "(assert (= y 2))", "(push 2)")
	do(t, s, step{"(reset x)", api.ErrForm, 0}, step{" ( reset ) ", api.OK, 0})
	wantPrint(t, s)
	wantCounts(t, s, 0, 0)
	do(t, s,
		step{"(pop)", api.ErrPop, 0},
		step{"(assert x)", api.ErrName, 8},
		step{"(declare-fun x () Int)", api.OK, 0},
		step{"(push 4)", api.OK, 0},
	)
}

// TestP3Check: a check is a command of its own, and changes nothing.
func TestP3Check(t *testing.T) {
	s := session(t, "(declare-fun x () Bool)", "(assert x)", "(push)")
	before := state(s)
	r := s.Do(" ( check-sat )", 5)
	if r.E != api.OK || r.Pos != 0 || r.V == api.None || state(s) != before {
		t.Errorf("%+v, and the stack is %q", r, state(s))
	}
}
