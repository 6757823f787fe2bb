package solver_test

import (
	"fmt"
	"math/rand"
	"strconv"
	"strings"
	"testing"

	"reason/api"
	"reason/solver"
)

// wantBounded tells whether a session is bounded as it should be, and whether Decide agrees: ErrArg and nothing else, or a verdict that is backed.
func wantBounded(t *testing.T, s *solver.Session, want bool) {
	t.Helper()
	before := state(s)
	if got := s.Bounded(); got != want {
		t.Errorf("P11: Bounded says %v of\n%s", got, s.Print())
	}
	d := s.Decide()
	if want {
		if d.E != api.OK || d.Pos != 0 {
			t.Errorf("P11: Decide: %v at %d of\n%s", d.E, d.Pos, s.Print())
		}
		wantBacked(t, s, d)
	} else if d.E != api.ErrArg || d.Pos != 0 || !plain(d) {
		t.Errorf("P11: Decide says %+v of\n%s", d, s.Print())
	}
	if after := state(s); after != before {
		t.Errorf("P11: Decide changed the stack from %q to %q", before, after)
	}
}

// TestBoundedSymbols: P11: which symbols a bounded stack has.
func TestBoundedSymbols(t *testing.T) {
	wantBounded(t, solver.New(), true)
	for _, c := range []struct {
		symbols string // with ; between: what stands behind the name
		want    bool
	}{
		{"() Bool", true}, {"() U", true}, {"(U) U", true}, {"(U U) Bool", true}, {"() Bool;() U;(U U) U;(U) Bool", true},
		{"() Int", false}, {"(Int) U", false}, {"(Int) Bool", false}, {"(U Int) U", false}, {"(Int U) Bool", false}, {"(Int) Int", false},
		{"(U) Int", false}, {"(U U) Int", false}, {"() Bool;(U Int) Bool", false}, {"() U;(U) Int;() U", false},
	} {
		s := solver.New()
		for i, rest := range strings.Split(c.symbols, ";") {
			do(t, s, step{"(declare-fun s" + strconv.Itoa(i) + " " + rest + ")", api.OK, 0})
		}
		wantBounded(t, s, c.want)
	}
	for n := 1; n <= api.MaxWhole+2; n++ {
		s := solver.New()
		for i := 0; i < n; i++ {
			x := "x" + strconv.Itoa(i)
			do(t, s, step{"(declare-fun " + x + " () Int)", api.OK, 0}, step{"(assert (and (<= 0 " + x + ") (<= " + x + " 3)))", api.OK, 0})
		}
		wantBounded(t, s, n <= api.MaxWhole)
	}
}

// TestBoundedBounds: P11: where the bounds of a number stand, and how far apart.
func TestBoundedBounds(t *testing.T) {
	for _, c := range []struct {
		want  bool
		terms string // with ; between
	}{
		{true, "(<= 0 x);(<= x 15)"}, {false, "(<= 0 x);(<= x 16)"}, {false, "(<= 0 x)"}, {false, "(<= x 15)"}, {false, "(<= 0 x);(<= 15 x)"}, {false, "(<= x 0);(<= x 15)"},
		{true, "(>= x 0);(>= 15 x)"}, {true, "(<= (- 5) x);(<= x 10)"}, {false, "(<= (- 5) x);(<= x 11)"}, {true, "(<= (- 20) x);(<= x (- 5))"}, {false, "(<= (- 20) x);(<= x (- 4))"},
		{true, "(<= 9 x);(<= x 3)"}, {true, "(<= 99999999 x);(<= x (- 99999999))"}, {true, "(<= 99999990 x);(<= x 99999999)"},
		{true, "(and (<= 0 x) (<= x 15))"}, {true, "(and p (and (<= 0 x) (and p (<= x 15))))"}, {true, "(<= x 15);(and p (<= 0 x) p)"},
		{false, "(or (<= 0 x) (<= 0 x));(<= x 15)"}, {false, "(or p (and (<= 0 x) (<= x 15)))"}, {false, "(not (<= x 0));(<= x 15)"}, {false, "(and p (or (<= 0 x) p));(<= x 15)"},
		{false, "(not (and (<= 0 x) (<= x 15)))"}, {false, "(=> p (<= 0 x));(<= x 15)"}, {false, "(ite p (<= 0 x) (<= 1 x));(<= x 15)"}, {false, "(= (<= 0 x) true);(<= x 15)"},
		{false, "(< 0 x);(<= x 15)"}, {false, "(< 0 x);(< x 5)"}, {false, "(= x 3)"}, {false, "(<= 0 (+ x 0));(<= x 15)"}, {false, "(<= (+ 0 0) x);(<= x 15)"}, {false, "(<= (- (- 0)) x);(<= x 15)"},
		{false, "(<= (- 5 5) x);(<= x 15)"}, {false, "(<= (* 1 3) x);(<= x 15)"}, {false, "(<= 0 y);(<= x 15)"}, {true, "(<= (- 0) x);(<= x 15)"}, {false, "(<= 0 x);(<= x y)"},
		{true, "(<= 0 x);(<= x 99);(<= x 15)"}, {true, "(<= 0 x);(<= x 15);(<= x 99);(<= (- 9) x)"}, {true, "(<= 0 x);(<= x 99);(<= 90 x)"}, {false, "(<= 0 x);(<= x 99);(<= 5 x);(<= x 21)"},
		{true, "(<= 0 x);(<= x 99);(<= 5 x);(<= x 20)"}, {true, "(<= x 15);(or p (not (<= 0 x)));(<= 0 x)"},
	} {
		s := session(t, "(declare-fun x () Int)", "(declare-fun p () Bool)")
		if strings.Contains(c.terms, "y") {
			do(t, s, step{"(declare-fun y () Int)", api.OK, 0}, step{"(assert (<= 0 y))", api.OK, 0}, step{"(assert (<= y 3))", api.OK, 0})
		}
		for _, term := range strings.Split(c.terms, ";") {
			do(t, s, step{"(assert " + term + ")", api.OK, 0})
		}
		wantBounded(t, s, c.want)
	}
}

// TestBoundedLevels: P11: bounds come and go with their levels.
func TestBoundedLevels(t *testing.T) {
	s := session(t, "(declare-fun x () Int)", "(assert (<= 0 x))")
	wantBounded(t, s, false)
	do(t, s, step{"(push)", api.OK, 0}, step{"(assert (<= x 15))", api.OK, 0})
	wantBounded(t, s, true)
	do(t, s, step{"(push)", api.OK, 0}, step{"(declare-fun y () Int)", api.OK, 0})
	wantBounded(t, s, false)
	do(t, s, step{"(pop)", api.OK, 0})
	wantBounded(t, s, true)
	do(t, s, step{"(pop)", api.OK, 0})
	wantBounded(t, s, false)
	do(t, s, step{"(reset)", api.OK, 0})
	wantBounded(t, s, true)
}

// TestDecideNumbers: P11 of bounded numbers.
func TestDecideNumbers(t *testing.T) {
	for _, c := range []struct {
		want  api.Verdict
		terms string
	}{
		{api.Sat, "(distinct x y z)"}, {api.Unsat, "(< x 0)"}, {api.Unsat, "(< 15 x)"}, {api.Sat, "(= x 15);(= y 0)"}, {api.Unsat, "(= (+ x y z) 46)"}, {api.Sat, "(= (+ x y z) 45)"},
		{api.Unsat, "(= (+ x y) 7);(= (- x y) 2)"}, {api.Sat, "(= (+ x y) 7);(= (- x y) 3)"}, {api.Unsat, "(= (* 2 x) (+ (* 2 y) 1))"}, {api.Unsat, "(= (+ (* 2 x) (* 4 y) (* 6 z)) 33)"},
		{api.Unsat, "(= (+ (* 7001 x) (* 11003 y) (* 13007 z)) 200270)"}, {api.Sat, "(= (+ (* 71 x) (* 113 y) (* 131 z)) 2027)"}, {api.Unsat, "(< x y);(< y z);(< z x)"},
		{api.Unsat, "(< x y);(< y (+ x 1))"}, {api.Sat, "(< x y);(< y (+ x 2))"}, {api.Unsat, "(distinct x 0 1 2);(<= x 2)"}, {api.Sat, "(distinct x 0 1 2);(<= x 3)"},
		{api.Unsat, "(not (or (<= x y) (<= y x)))"}, {api.Unsat, "(<= x y);(<= y x);(distinct x y)"}, {api.Unsat, "(= x (ite p y z));(distinct x y);(distinct x z)"},
		{api.Sat, "(= x (ite (< y z) (+ y 1) (- z 1)));(<= z x)"}, {api.Unsat, "(= x (ite (< y z) (+ y 1) (- z 1)));(< z x)"}, {api.Unsat, "(= x (ite (< y z) y z));(or (< y x) (< z x))"}, {api.Sat, "(= (* 99999999 x) (* 99999999 y));(< 3 x)"},
		{api.Unsat, "(= (* 99999999 (* 99999999 x)) (+ 1 (* 99999999 (* 99999999 y))))"}, {api.Unsat, "(or (= (+ x x) 7) (= (+ y y) 9) (= (+ z z) 11))"}, {api.Unsat, "(<= 5 x);(<= x 4)"},
		{api.Unsat, "(= (= x 3) (= x 4));(<= 3 x);(<= x 4)"}, {api.Sat, "(xor (= x 3) (= x 4));p"}, {api.Sat, "(<= x x)"}, {api.Unsat, "(< x x)"}, {api.Unsat, "(distinct x y x)"},
	} {
		s := session(t, "(declare-fun p () Bool)")
		for _, x := range []string{"x", "y", "z"} {
			do(t, s, step{"(declare-fun " + x + " () Int)", api.OK, 0}, step{"(assert (and (<= 0 " + x + ") (<= " + x + " 15)))", api.OK, 0})
		}
		for _, term := range strings.Split(c.terms, ";") {
			do(t, s, step{"(assert " + term + ")", api.OK, 0})
		}
		wantBounded(t, s, true)
		wantVerdict(t, s, c.want)
	}
}

// TestDecideRandom: P11 of many bounded stacks, compared with what Holds says of all their numbers.
func TestDecideRandom(t *testing.T) {
	r := rand.New(rand.NewSource(11))
	counts := [4]int{}
	for round := 0; round < 150; round++ {
		s := session(t, "(declare-fun x () Int)", "(declare-fun y () Int)", "(declare-fun p () Bool)", "(assert (and (<= (- 3) x) (<= x 4) (<= 1 y) (<= y 9)))")
		w := counter{r}
		for n := 1 + r.Intn(5); n > 0; n-- {
			s.Do("(assert "+w.bool(1+r.Intn(3))+")", 0)
		}
		want := api.Unsat
		for way := 0; way < 8*9*2; way++ {
			m := []api.Entry{{Sym: 0, Val: strconv.Itoa(way%8 - 3)}, {Sym: 1, Val: strconv.Itoa(way/8%9 + 1)}, {Sym: 2, Val: strconv.Itoa(way / 72)}}
			if ok, _ := s.Holds(m); ok {
				want = api.Sat
			}
		}
		d := s.Decide()
		if d.V != want {
			t.Errorf("P11: %v, want %v of\n%s", d.V, want, s.Print())
		}
		wantBacked(t, s, d)
		counts[want]++
	}
	if counts[api.Sat] < 30 || counts[api.Unsat] < 30 {
		t.Errorf("too few of a kind: %v", counts)
	}
}

// counter writes terms of numbers at random.
type counter struct{ r *rand.Rand }

// bool writes a term of Bool.
func (w counter) bool(depth int) string {
	if depth > 0 && w.r.Intn(3) == 0 {
		op := []string{"and", "or", "xor", "=>", "="}[w.r.Intn(5)]
		return "(" + op + " " + w.bool(depth-1) + " " + w.bool(depth-1) + ")"
	}
	if w.r.Intn(8) == 0 {
		return "p"
	}
	op := []string{"<", "<=", "=", "distinct", ">", ">="}[w.r.Intn(6)]
	return "(" + op + " " + w.int(depth) + " " + w.int(depth) + ")"
}

// int writes a term of Int.
func (w counter) int(depth int) string {
	if depth <= 0 || w.r.Intn(4) == 0 {
		return []string{"x", "y", strconv.Itoa(w.r.Intn(12)), "(- " + strconv.Itoa(w.r.Intn(12)) + ")"}[w.r.Intn(4)]
	}
	switch w.r.Intn(5) {
	case 0:
		return "(ite " + w.bool(depth-1) + " " + w.int(depth-1) + " " + w.int(depth-1) + ")"
	case 1:
		return fmt.Sprintf("(* %d %s)", w.r.Intn(7), w.int(depth-1))
	case 2:
		return "(- " + w.int(depth-1) + " " + w.int(depth-1) + ")"
	}
	return "(+ " + w.int(depth-1) + " " + w.int(depth-1) + ")"
}

// TestDecideExamples: the document's examples 12 and 13.
func TestDecideExamples(t *testing.T) {
	s := session(t, "(declare-fun p () Bool)", "(declare-fun q () Bool)", "(assert (or p q))", "(assert (or (not p) q))", "(assert (or p (not q)))")
	if d := s.Decide(); d.E != api.OK || d.V != api.Sat {
		t.Errorf("12: %+v", d)
	}
	do(t, s, step{"(assert (or (not p) (not q)))", api.OK, 0})
	if d := s.Decide(); d.E != api.OK || d.V != api.Unsat {
		t.Errorf("12: %+v", d)
	}
	s = session(t, "(declare-fun x () Int)", "(assert (<= 0 x))")
	if d := s.Decide(); s.Bounded() || d.E != api.ErrArg {
		t.Errorf("13: %v, %+v", s.Bounded(), d)
	}
	do(t, s, step{"(assert (<= x 15))", api.OK, 0})
	if !s.Bounded() {
		t.Error("13: not bounded")
	}
}
