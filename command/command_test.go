package command

import (
	"reflect"
	"strings"
	"testing"

	"reason/api"
	"reason/lists"
	"reason/stack"
)

// run carries out commands that must not fault.
func run(t *testing.T, st *stack.Stack, texts ...string) {
	t.Helper()
	for _, text := range texts {
		if _, f := Run(st, text); f.E != api.OK {
			t.Fatalf("%q: %v at %d", text, f.E, f.Pos)
		}
	}
}

// listed tells the terms as they are printed, in the order of their numbers.
func listed(st *stack.Stack) string {
	var l []string
	for i := range st.Terms {
		l = append(l, st.TermText(i))
	}
	return strings.Join(l, ", ")
}

// TestP5Numbers: a term joins once, when its reading ends, its arguments ahead of it in the order in which they are read.
func TestP5Numbers(t *testing.T) {
	for _, c := range []struct {
		commands []string
		want     string
	}{
		{[]string{"(declare-fun p () Bool)", "(declare-fun q () Bool)", "(assert (and p (not q)))", "(assert (=> p q))"},
			"p, q, (not q), (and p (not q)), (=> p q)"},
		{[]string{"(declare-fun a () U)", "(declare-fun b () U)", "(declare-fun f (U) U)", "(assert (= a b))", "(assert (distinct (f a) (f b)))"},
			"a, b, (= a b), (f a), (f b), (distinct (f a) (f b))"},
		{[]string{"(declare-fun x () Int)", "(assert (<= 3 x))", "(assert (<= x 2))"}, "3, x, (<= 3 x), 2, (<= x 2)"},
		{[]string{"(declare-fun x () Int)", "(declare-fun y () Int)", "(assert (= (* 2 x) (+ (* 2 y) 1)))"},
			"2, x, (* 2 x), y, (* 2 y), 1, (+ (* 2 y) 1), (= (* 2 x) (+ (* 2 y) 1))"},
		{[]string{"(declare-fun x () Int)", "(assert (>= x 3))", "(assert (<= 3 x))", "(assert (> (* x 3) (- 3)))"},
			"x, 3, (<= 3 x), (* 3 x), (- 3), (< (- 3) (* 3 x))"},
	} {
		var st stack.Stack
		run(t, &st, c.commands...)
		if got := listed(&st); got != c.want {
			t.Errorf("%q: listed %q, want %q", c.commands, got, c.want)
		}
	}
}

// TestP5FaultTerms: with a fault the list of terms is as it was; P6: numbers are given again.
func TestP5FaultTerms(t *testing.T) {
	var st stack.Stack
	run(t, &st, "(declare-fun x () Int)", "(assert (= x 1))")
	for _, text := range []string{
		"(assert (= 7 zz))", "(assert (+ 7 8))", "(assert (not (+ 7 8)))", "(assert (= (* (+ x 7) x) 8))", "(assert (= 7 ()))", "(assert (= (- 7) (x)))",
	} {
		before := st
		before.Terms = append([]stack.Term{}, st.Terms...)
		_, f := Run(&st, text)
		if f.E == api.OK || !reflect.DeepEqual(st, before) {
			t.Errorf("%q: %v, and the terms are %q", text, f.E, listed(&st))
		}
	}
	run(t, &st, "(push)", "(assert (< 2 x))", "(pop)", "(assert (< x 3))")
	if got := listed(&st); got != "x, 1, (= x 1), 3, (< x 3)" {
		t.Errorf("listed %q", got)
	}
}

// TestKinds: each listed term knows what it is.
func TestKinds(t *testing.T) {
	var st stack.Stack
	run(t, &st, "(declare-fun f (Int) U)", "(declare-fun b () Bool)", "(assert (ite b true (= (f (- 12)) (f 0))))")
	want := []stack.Term{
		{Op: stack.Apply, Sym: 1, Sort: api.Bool},
		{Op: stack.True, Sort: api.Bool},
		{Op: stack.Numeral, Num: 12, Sort: api.Int},
		{Op: stack.Minus, Args: []int{2}, Sort: api.Int},
		{Op: stack.Apply, Sym: 0, Args: []int{3}, Sort: api.U},
		{Op: stack.Numeral, Num: 0, Sort: api.Int},
		{Op: stack.Apply, Sym: 0, Args: []int{5}, Sort: api.U},
		{Op: stack.Equal, Args: []int{4, 6}, Sort: api.Bool},
		{Op: stack.Ite, Args: []int{0, 1, 7}, Sort: api.Bool},
	}
	if !reflect.DeepEqual(st.Terms, want) {
		t.Errorf("got %+v, want %+v", st.Terms, want)
	}
	if !reflect.DeepEqual(st.Held, []int{8}) {
		t.Errorf("asserted %v", st.Held)
	}
}

// TestAsked: only a check that stands alone is asked for.
func TestAsked(t *testing.T) {
	for _, c := range []struct {
		text  string
		asked bool
		e     api.Errno
	}{
		{"(check-sat)", true, api.OK}, {"(check-sat x)", false, api.ErrForm}, {"(check-sat", false, api.ErrSyntax}, {"(reset)", false, api.OK}, {"(push)", false, api.OK},
	} {
		var st stack.Stack
		asked, f := Run(&st, c.text)
		if asked != c.asked || f.E != c.e {
			t.Errorf("%q: %v, %v", c.text, asked, f.E)
		}
	}
}

// TestNoSuchPlace: places that are none of the text's are told apart, not reached for.
func TestNoSuchPlace(t *testing.T) {
	items, _ := lists.Read("(a (b) c)")
	for _, at := range []int{-1, len(items), 1 << 40} {
		if lists.Inside(items, at) != nil || lists.At(items, at) != (lists.Item{}) {
			t.Errorf("something is at %d", at)
		}
	}
	if got := lists.Inside(items, 0); !reflect.DeepEqual(got, []int{1, 2, 4}) {
		t.Errorf("inside are %v", got)
	}
	var st stack.Stack
	if !reflect.DeepEqual(st.Term(-1), stack.Term{}) || !reflect.DeepEqual(st.Symbol(0), stack.Symbol{}) || st.TermText(3) != "" {
		t.Error("something is on an empty stack")
	}
}
