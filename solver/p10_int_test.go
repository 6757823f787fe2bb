package solver_test

import (
	"fmt"
	"math/rand"
	"strings"
	"testing"

	"reason/api"
	"reason/solver"
)

// numbers declares symbols that are Ints or take Ints.
var numbers = []string{
	"(declare-fun x () Int)", "(declare-fun y () Int)", "(declare-fun z () Int)", "(declare-fun h (Int) Int)",
	"(declare-fun c (U) Int)", "(declare-fun k (Int U) U)", "(declare-fun m (Int Int) Bool)", "(declare-fun a () U)",
}

// TestCheckInt: P10 of stacks with symbols that are Ints, without bounds.
func TestCheckInt(t *testing.T) {
	for _, c := range []struct {
		want  api.Verdict
		terms string // with ; between
	}{
		{api.Sat, "(<= x y)"}, {api.Unsat, "(<= x y);(< y x)"}, {api.Unsat, "(< x y);(< y (+ x 1))"}, {api.Sat, "(< x y);(< y (+ x 2))"}, {api.Unsat, "(<= 3 x);(<= x 2)"},
		{api.Unsat, "(< x y);(< y z);(< z x)"}, {api.Sat, "(< x y);(< y z);(<= x z)"}, {api.Unsat, "(= x y);(= y z);(distinct x z)"}, {api.Unsat, "(= x (+ x 1))"}, {api.Sat, "(= x (+ (+ x 1) (- 1)))"},
		{api.Unsat, "(= (* 2 x) (+ (* 2 y) 1))"}, {api.Sat, "(= (* 2 x) (+ (* 3 y) 1))"}, {api.Unsat, "(= (+ (* 4 x) (* 6 y)) 3)"}, {api.Sat, "(= (+ (* 4 x) (* 6 y)) 2)"},
		{api.Unsat, "(= (+ x y) 7);(= (- x y) 2)"}, {api.Sat, "(= (+ x y) 7);(= (- x y) 3)"}, {api.Unsat, "(<= 1 (- (* 3 x) (* 6 y)));(<= (- (* 3 x) (* 6 y)) 2)"},
		{api.Unsat, "(= (+ (* 4 x) (* 6 y) (* 9 z)) 5);(= (+ (* 6 x) (* 9 y) (* 4 z)) 7)"}, {api.Unsat, "(<= 2 (- (* 6 y) (+ (* 6 x) (* 3 z))));(<= (- (* 6 y) (+ (* 6 x) (* 3 z))) 4);(= z 0)"},
		{api.Sat, "(= (+ (* 21 x) (* 6 y) (* 14 z)) 1);(< 1000 x);(< y (- 2000));(< z 5)"}, {api.Sat, "(= (* 99999999 x) (* 99999998 y));(< 0 x)"}, {api.Unsat, "(= (* 99999999 x) (* 99999998 y));(< 0 x);(< x 99999998)"},
		{api.Unsat, "(or (< x 0) (> x 9));(= (* 2 x) (+ y 9));(<= (- 9) y);(<= y 8)"}, {api.Unsat, "(distinct x 0 1 2);(distinct x 3);(<= 0 x);(<= x 3)"}, {api.Sat, "(distinct x 0 1 2);(distinct x 3);(<= 0 x);(<= x 4)"},
		{api.Unsat, "(= x (ite (< y z) y z));(or (< y x) (< z x))"}, {api.Unsat, "(< (ite (< x 0) (- x) x) 0)"}, {api.Unsat, "(< (ite (< x y) (- y x) (- x y)) (- x y))"}, {api.Sat, "(= (ite (< x 0) (- x) x) (- 2 x));(< x 5)"}, {api.Unsat, "(= (ite (< x 0) (- x) x) (- x 2));(< x 5)"},
		{api.Sat, "(= (* 99999999 (* 99999999 x)) (+ y 1));(< 0 y)"}, {api.Unsat, "(= (* 99999999 (* 99999999 x)) (+ (* 99999999 y) 1))"}, {api.Sat, "(< (* 99999999 (* 99999999 (* 99999999 99999999))) x)"},
		{api.Unsat, "(= (+ (* 15 x) (* 10 y) (* 6 z)) 1);(= x (* 2 y));(= y (* 3 z))"}, {api.Sat, "(= (+ (* 15 x) (* 10 y) (* 6 z)) 1)"}, {api.Sat, "true"}, {api.Unsat, "(< x y);false"},
	} {
		judge(t, numbers[:3], c.want, strings.Split(c.terms, ";")...)
		judge(t, numbers, c.want, strings.Split(c.terms, ";")...)
	}
}

// TestCheckTakesInt: P10 of stacks with symbols that take Ints.
func TestCheckTakesInt(t *testing.T) {
	for _, c := range []struct {
		want  api.Verdict
		terms string
	}{
		{api.Unsat, "(= x 5);(distinct (h x) (h 5))"}, {api.Sat, "(= x 5);(distinct (h x) (h 6))"}, {api.Unsat, "(<= x y);(<= y x);(distinct (h x) (h y))"}, {api.Sat, "(<= x y);(distinct (h x) (h y))"},
		{api.Unsat, "(distinct (h x) (h y));(= (+ x z) (+ y z))"}, {api.Unsat, "(= (+ x y) 10);(= (- x y) 0);(< (h x) (h 5))"}, {api.Sat, "(= (+ x y) 10);(= (- x y) 2);(< (h x) (h 5))"},
		{api.Unsat, "(m x (+ y 1));(not (m x z));(= z (- y (- 1)))"}, {api.Sat, "(m x y);(not (m y x))"}, {api.Unsat, "(m x y);(not (m y x));(<= x y);(<= y x)"},
		{api.Unsat, "(distinct (k x a) (k y a));(= (* 2 x) (* 2 y))"}, {api.Unsat, "(distinct (c (k x a)) (c (k (+ x 0) a)))"}, {api.Sat, "(distinct (c (k x a)) (c (k (+ x 1) a)))"},
		{api.Unsat, "(= (h (h x)) x);(= (h (h y)) y);(= (h x) (h y));(distinct x y)"}, {api.Unsat, "(= (h x) (+ x 1));(= (h (+ x 1)) (+ x 2));(distinct (h (h x)) (+ x 2))"},
		{api.Unsat, "(<= 0 x);(<= x 2);(= (h 0) 7);(= (h 1) 7);(= (h 2) 7);(distinct (h x) 7)"}, {api.Sat, "(<= 0 x);(<= x 3);(= (h 0) 7);(= (h 1) 7);(= (h 2) 7);(distinct (h x) 7)"},
		{api.Unsat, "(and (<= 0 (h 0)) (<= (h 0) 1));(and (<= 0 (h 1)) (<= (h 1) 1));(and (<= 0 (h 2)) (<= (h 2) 1));(distinct (h 0) (h 1) (h 2))"}, {api.Sat, "(and (<= 0 (h 0)) (<= (h 0) 1));(and (<= 0 (h 1)) (<= (h 1) 1));(distinct (h 0) (h 1))"},
		{api.Unsat, "(< (h x) (h y));(= (ite (< x y) x y) (ite (< x y) y x))"}, {api.Unsat, "(distinct (h (ite (< x y) x y)) (h x));(< x y)"}, {api.Sat, "(distinct (h (ite (< x y) x y)) (h x));(<= y x)"},
		{api.Unsat, "(= (c a) (h (c a)));(distinct (h (h (c a))) (c a))"}, {api.Unsat, "(= (h x) (* 2 y));(= (h z) (+ (* 2 y) 1));(= x z)"}, {api.Unsat, "(= (h x) (* 2 y));(= (h (+ z 0)) (+ (* 2 (h y)) 1));(= x z)"},
		{api.Sat, "(distinct (h 0) (h 1) (h 2) (h 3))"}, {api.Sat, "(distinct (h x) (h y) (h z));(<= 0 (+ x y z))"}, {api.Unsat, "(distinct (h x) (h y) (h z));(<= 0 x);(<= x 1);(<= 0 y);(<= y 1);(<= 0 z);(<= z 1)"},
		{api.Unsat, "(= (k x a) a);(= (k y a) a);(distinct (k z a) a);(or (= z x) (= z y))"}, {api.Sat, "(= (k 0 a) a);(distinct (k 1 a) (k 2 a) a)"}, {api.Unsat, "(m (h x) (h y));(= (h x) 3);(= (h y) 4);(not (m 3 4))"},
	} {
		judge(t, numbers, c.want, strings.Split(c.terms, ";")...)
	}
}

// TestCheckIntRandom: P10 of many stacks with Ints and symbols that take them: all of these are decided, and what comes with the verdict holds.
func TestCheckIntRandom(t *testing.T) {
	r := rand.New(rand.NewSource(15))
	counts := [4]int{}
	for round := 0; round < 400; round++ {
		s := session(t, numbers...)
		w := mixer{r}
		for n := 1 + r.Intn(8); n > 0; n-- {
			s.Do("(assert "+w.bool(1+r.Intn(3))+")", 0)
		}
		got := check(t, s, api.MaxBudget)
		wantBacked(t, s, got)
		counts[got.V]++
		for _, b := range []int{0, got.Spent / 2, got.Spent - 1, got.Spent, got.Spent + 1} {
			if b < 0 || b > api.MaxBudget {
				continue
			}
			again := check(t, s, b)
			if b >= got.Spent && fmt.Sprint(again) != fmt.Sprint(got) || b < got.Spent && (again.V != api.Unknown || again.Spent <= b || again.Model != nil || again.Proof != "") {
				t.Errorf("P10: %v with budget %d, though %v costs %d of\n%s", again, b, got.V, got.Spent, s.Print())
			}
		}
	}
	if counts[api.Sat] < 50 || counts[api.Unsat] < 50 {
		t.Errorf("too few of a kind: %v", counts)
	}
}

// mixer writes terms of all sorts at random.
type mixer struct{ r *rand.Rand }

// bool writes a term of Bool.
func (w mixer) bool(depth int) string {
	if depth > 0 && w.r.Intn(3) == 0 {
		op := []string{"and", "or", "or", "xor", "=>", "="}[w.r.Intn(6)]
		return "(" + op + " " + w.bool(depth-1) + " " + w.bool(depth-1) + ")"
	}
	switch w.r.Intn(6) {
	case 0:
		return "(m " + w.int(depth-1) + " " + w.int(depth-1) + ")"
	case 1:
		return "(" + []string{"=", "distinct"}[w.r.Intn(2)] + " " + w.element(depth) + " " + w.element(depth) + ")"
	}
	op := []string{"<", "<=", "=", "=", "distinct", ">", ">="}[w.r.Intn(7)]
	return "(" + op + " " + w.int(depth) + " " + w.int(depth) + ")"
}

// int writes a term of Int.
func (w mixer) int(depth int) string {
	if depth <= 0 || w.r.Intn(4) == 0 {
		return []string{"x", "y", "z", fmt.Sprint(w.r.Intn(12)), fmt.Sprintf("(- %d)", w.r.Intn(12))}[w.r.Intn(5)]
	}
	switch w.r.Intn(8) {
	case 0:
		return "(ite " + w.bool(depth-1) + " " + w.int(depth-1) + " " + w.int(depth-1) + ")"
	case 1:
		return fmt.Sprintf("(* %d %s)", w.r.Intn(9)-4, w.int(depth-1))
	case 2:
		return fmt.Sprintf("(* %d %s)", 2+w.r.Intn(9), w.int(depth-1))
	case 3:
		return "(- " + w.int(depth-1) + " " + w.int(depth-1) + ")"
	case 4:
		return "(h " + w.int(depth-1) + ")"
	case 5:
		return "(c " + w.element(depth-1) + ")"
	}
	return "(+ " + w.int(depth-1) + " " + w.int(depth-1) + ")"
}

// element writes a term of U.
func (w mixer) element(depth int) string {
	if depth <= 0 || w.r.Intn(3) == 0 {
		return "a"
	}
	return "(k " + w.int(depth-1) + " " + w.element(depth-1) + ")"
}

// TestCheckIntStackAlone: P10: a check of numbers hangs on the stack alone, not on how it came to be.
func TestCheckIntStackAlone(t *testing.T) {
	terms := []string{"(or (< x y) (= (h x) (h y)))", "(distinct (h x) (h y) (h (+ x y)))", "(= (+ (* 3 x) (* 5 y)) (* 7 z))", "(or (m x y) (< z x))", "(not (m y x))"}
	straight := session(t, numbers...)
	around := session(t, numbers...)
	other := session(t, numbers...)
	for _, term := range terms {
		do(t, straight, step{"(assert " + term + ")", api.OK, 0})
		around.Do("(push 2)", 0)
		around.Do("(declare-fun w () Int)", 0)
		around.Do("(assert (= (+ x y z) (* 2 (h 77))))", 0)
		check(t, around, api.MaxBudget)
		around.Do("(pop 2)", 0)
		around.Do("(assert (and (= (h 9) 9) "+term+" (= x a)))", 0)
		check(t, around, 1)
		do(t, around, step{"(assert " + term + ")", api.OK, 0})
		other.Do("(assert (< x 0))", 0)
		check(t, other, 7)
	}
	if state(straight) != state(around) {
		t.Fatalf("two ways to two stacks: %q, %q", state(straight), state(around))
	}
	for b := 0; b <= 60; b++ {
		one, two := check(t, straight, b), check(t, around, b)
		if fmt.Sprint(one) != fmt.Sprint(two) {
			t.Errorf("P10: with budget %d the same stack has %v and %v", b, one, two)
		}
	}
	wantVerdict(t, straight, api.Sat)
}

// odd is a bounded stack with a sum of so many numbers, each 0 or 2 as truth values choose, which is to be odd.
func odd(t *testing.T, n int) *solver.Session {
	t.Helper()
	s := session(t, "(declare-fun a () U)", "(declare-fun b () U)", "(declare-fun c () U)", "(declare-fun d () U)", "(declare-fun m (U U) Bool)", "(declare-fun x () Int)", "(assert (and (<= 0 x) (<= x 15)))")
	var list []string
	for i := 0; i < n; i++ {
		list = append(list, fmt.Sprintf("(ite (m %c %c) 0 2)", 'a'+i%4, 'a'+i/4))
	}
	half := n / 2
	low := "(+ (+ " + strings.Join(list[:half/2], " ") + ") (+ " + strings.Join(list[half/2:half], " ") + "))"
	rest := list[half:]
	high := "(+ (+ " + strings.Join(rest[:len(rest)/2], " ") + ") (+ " + strings.Join(rest[len(rest)/2:], " ") + "))"
	do(t, s, step{"(assert (= (+ x x 1) " + low + "))", api.OK, 0}, step{"(assert (<= 0 " + high + "))", api.OK, 0}, step{"(assert (distinct " + low + " " + high + "))", api.OK, 0})
	return s
}

// TestCheckDear: P10 of a check that costs much, and P11: Decide spends as much as it costs, be it more than any budget.
func TestCheckDear(t *testing.T) {
	wantVerdict(t, odd(t, 8), api.Unsat)
	s := session(t, "(declare-fun a () U)", "(declare-fun b () U)", "(declare-fun c () U)", "(declare-fun d () U)", "(declare-fun m (U U) Bool)")
	var list []string
	for i := 0; i < 15; i++ {
		list = append(list, fmt.Sprintf("(ite (m %c %c) 0 2)", 'a'+i%4, 'a'+i/4))
	}
	sum := func(l []string) string { return "(+ " + strings.Join(l, " ") + ")" }
	do(t, s, step{"(assert (= 13 (+ " + sum(list[:4]) + " " + sum(list[4:8]) + " " + sum(list[8:12]) + " " + sum(list[12:]) + ")))", api.OK, 0})
	d := s.Decide()
	if d.V != api.Unsat || d.Spent <= api.MaxBudget {
		t.Errorf("P11: %v, for %d", d.V, d.Spent)
	}
	wantBacked(t, s, d)
	for _, b := range []int{0, 1, 100, api.MaxBudget} {
		r := check(t, s, b)
		if r.V != api.Unknown || r.Spent <= b || r.Model != nil || r.Proof != "" {
			t.Errorf("P10: with budget %d of %d: %v, spent %d", b, d.Spent, r.V, r.Spent)
		}
		if again := check(t, s, b); again.Spent != r.Spent {
			t.Errorf("P10: with budget %d once %d is spent and once %d", b, r.Spent, again.Spent)
		}
	}
}

// TestCheckIntLists: P2 of a model of numbers: it is the caller's, at every depth.
func TestCheckIntLists(t *testing.T) {
	s := session(t, numbers...)
	do(t, s, step{"(assert (distinct (h x) (h y) (c (k x a)) 0))", api.OK, 0}, step{"(assert (m x (+ y 3)))", api.OK, 0})
	want := fmt.Sprint(check(t, s, api.MaxBudget))
	r := check(t, s, api.MaxBudget)
	for i := range r.Model {
		for j := range r.Model[i].Args {
			r.Model[i].Args[j] = "z"
		}
		_ = append(r.Model[i].Args, "x", "y")
		r.Model[i] = api.Entry{Sym: -1}
	}
	if got := fmt.Sprint(check(t, s, api.MaxBudget)); got != want {
		t.Errorf("P2: a model that was changed comes again: %s, want %s", got, want)
	}
	wantVerdict(t, s, api.Sat)
}
