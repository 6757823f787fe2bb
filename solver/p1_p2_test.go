package solver_test

import (
	"fmt"
	"math"
	"math/rand"
	"reflect"
	"strings"
	"testing"

	"reason/api"
	"reason/solver"
)

// TestP1OddInputs: no call panics at odd numbers, strings and lists.
func TestP1OddInputs(t *testing.T) {
	texts := []string{"", " ", "\n", "\x00", "\xff", "é", "(", ")", "((", "))", "()", "(())", "( ( ) )",
		strings.Repeat("(", 400), strings.Repeat(")", 400), strings.Repeat("a", 400), strings.Repeat("()", 200),
		strings.Repeat("(", 1<<20), strings.Repeat("\xff", 1<<20),
		"(" + strings.Repeat("push ", 79) + ")", "(assert " + strings.Repeat("(not ", 11), "(check-sat)"}
	budgets := []int{math.MinInt, -1, 0, 1, api.MaxBudget, api.MaxBudget + 1, math.MaxInt}
	models := [][]api.Entry{nil, {}, {{}}, {{Sym: math.MinInt, Args: make([]string, 1000), Val: "-0"}},
		{{Sym: math.MaxInt, Other: true, Val: strings.Repeat("9", 10000)}}, make([]api.Entry, 10000)}
	s := session(t, symbols...)
	for _, text := range texts {
		for _, b := range budgets {
			r := s.Do(text, b)
			if r.Pos < 0 || r.Pos > len(text) || r.E == api.OK && r.Pos != 0 {
				t.Errorf("%.20q with %d: a fault at %d", text, b, r.Pos)
			}
		}
		s.Accepts(text)
	}
	for _, m := range models {
		s.Holds(m)
	}
	s.Bounded()
	s.Decide()
	wantPrint(t, s, symbols...)
}

// TestP1FirstNamed: where several errors apply, it is the one named first.
func TestP1FirstNamed(t *testing.T) {
	s := session(t, "(declare-fun f () Int)")
	long := strings.Repeat("(", 401)
	for _, c := range []struct {
		text   string
		budget int
		e      api.Errno
		pos    int
	}{
		{long, -1, api.ErrArg, 0},
		{long, 0, api.ErrLong, 0},
		{"(x", 0, api.ErrSyntax, 2},
		{"(reset x", 0, api.ErrSyntax, 8},
		{"() x", 0, api.ErrSyntax, 3},
		{"((((((((((((((é", 0, api.ErrDepth, 12},
		{"(é((((((((((((((", 0, api.ErrSyntax, 1},
		{"(declare-fun 9 9)", 0, api.ErrForm, 0},
		{"(declare-fun 9 () ())", 0, api.ErrForm, 18},
		{"(declare-fun and (V) V)", 0, api.ErrName, 13},
		{"(declare-fun f (V) V)", 0, api.ErrAgain, 13},
		{"(declare-fun g (V V V) V)", 0, api.ErrSort, 15},
		{"(declare-fun g (V W) V)", 0, api.ErrSort, 16},
		{"(push x y)", 0, api.ErrForm, 0},
		{"(push x)", 0, api.ErrForm, 6},
	} {
		before := state(s)
		r := s.Do(c.text, c.budget)
		if r.E != c.e || r.Pos != c.pos || !plain(r) {
			t.Errorf("%.30q with %d: got %+v, want %v at %d", c.text, c.budget, r, c.e, c.pos)
		}
		if state(s) != before {
			t.Errorf("%.30q: the fault changed the stack", c.text)
		}
	}
}

// word picks a word that may stand in a command, fit or unfit.
func word(r *rand.Rand) string {
	words := strings.Fields("declare-fun assert push pop reset check-sat not and or xor => = distinct <= < >= > ite + - * " +
		"true false Bool Int U x y p q a f g h z 0 1 2 3 007 99999999 123456789 -5 toolong99")
	return words[r.Intn(len(words))]
}

// junk makes a text of words and brackets without much order.
func junk(r *rand.Rand) string {
	text := ""
	for range r.Intn(30) {
		switch r.Intn(6) {
		case 0, 1:
			text += "("
		case 2:
			text += ")"
		case 3:
			text += string(rune(r.Intn(256)))
		default:
			text += word(r) + " "
		}
	}
	return text
}

// anyTerm makes a term, fit or unfit.
func anyTerm(r *rand.Rand, depth int) string {
	if depth == 0 || r.Intn(4) == 0 {
		return word(r)
	}
	text := "(" + word(r)
	for range r.Intn(4) {
		text += " " + anyTerm(r, depth-1)
	}
	return text + ")"
}

// fitTerm makes a term of a sort, with the symbols at hand.
func fitTerm(r *rand.Rand, sort, depth int) string {
	leaf := []string{"", "p", "x", "a"}[sort]
	if depth == 0 {
		return leaf
	}
	b := func() string { return fitTerm(r, api.Bool, depth-1) }
	i := func() string { return fitTerm(r, api.Int, depth-1) }
	u := func() string { return fitTerm(r, api.U, depth-1) }
	var some []string
	switch sort {
	case api.Bool:
		some = []string{"true", "q", "(not " + b() + ")", "(and " + b() + " " + b() + ")", "(=> " + b() + "\n" + b() + ")",
			"(>= " + i() + " " + i() + ")", "(> " + i() + "  " + i() + ")", "(= " + u() + " " + u() + ")", "(distinct " + i() + " 7)", "(g " + i() + " " + u() + ")"}
	case api.Int:
		some = []string{"y", fmt.Sprint(r.Intn(50)), "(+ " + i() + " 3)", "(- " + i() + ")", "(* " + i() + " (- 4))", "(h " + i() + " 1)", "(ite " + b() + " " + i() + " 2)"}
	default:
		some = []string{"a", "(f " + u() + ")", "(ite " + b() + " " + u() + " a)"}
	}
	return some[r.Intn(len(some))]
}

// command makes a command, fit or unfit.
func command(r *rand.Rand) string {
	switch r.Intn(12) {
	case 0:
		return junk(r)
	case 1, 2:
		return "(assert " + anyTerm(r, 3) + ")"
	case 3:
		return "(assert (= (* x " + fitTerm(r, api.Int, 2) + ") 1))"
	case 4, 5:
		return "(assert " + fitTerm(r, api.Bool, 3) + ")"
	case 6, 7:
		return symbols[r.Intn(len(symbols))]
	case 8:
		return fmt.Sprintf("(push %d)", r.Intn(3))
	case 9:
		return fmt.Sprintf("(pop %d)", r.Intn(3))
	case 10:
		return "(" + word(r) + " " + anyTerm(r, 2) + ")"
	}
	return "(declare-fun " + anyTerm(r, 1) + " (" + word(r) + ") " + word(r) + ")"
}

// TestP1Random: at commands of all kinds no call panics, a fault lies in the text and changes nothing, and what is printed makes the same stack again.
func TestP1Random(t *testing.T) {
	seen := make(map[api.Errno]int)
	for seed := range int64(300) {
		r := rand.New(rand.NewSource(seed))
		s := solver.New()
		for range 120 {
			text := command(r)
			before := state(s)
			got := s.Do(text, 0)
			seen[got.E]++
			if got.E != api.OK && (!plain(got) || state(s) != before) {
				t.Fatalf("%q: %+v changed %q to %q", text, got, before, state(s))
			}
			if got.Pos < 0 || got.Pos > len(text) || got.E == api.OK && got.Pos != 0 {
				t.Fatalf("%q: %+v", text, got)
			}
		}
		again := solver.New()
		for _, line := range strings.Split(strings.TrimSuffix(s.Print(), "\n"), "\n") {
			if line == "" {
				continue
			}
			if got := again.Do(line, 0); got.E != api.OK {
				t.Fatalf("the printed %q: %+v", line, got)
			}
		}
		if state(again) != state(s) {
			t.Fatalf("printed %q, and again %q", state(s), state(again))
		}
	}
	for e := api.OK; e <= api.ErrPop; e++ {
		if e != api.ErrLong && seen[e] == 0 {
			t.Errorf("%v never came up", e)
		}
	}
}

// TestP2Apart: sessions know nothing of each other.
func TestP2Apart(t *testing.T) {
	one := session(t, "(declare-fun x () Int)", "(assert (<= x 1))", "(push)")
	two := session(t, "(declare-fun x () Bool)", "(push 2)", "(assert x)")
	three := session(t)
	do(t, one, step{"(assert (< x 9))", api.OK, 0}, step{"(assert (not x))", api.ErrSort, 8})
	do(t, two, step{"(assert (not x))", api.OK, 0}, step{"(assert (< x 9))", api.ErrSort, 8})
	do(t, three, step{"(assert x)", api.ErrName, 8}, step{"(pop)", api.ErrPop, 0})
	wantPrint(t, one, "(declare-fun x () Int)", "(assert (<= x 1))", "(push)", "(assert (< x 9))")
	wantPrint(t, two, "(declare-fun x () Bool)", "(push)", "(push)", "(assert x)", "(assert (not x))")
	do(t, one, step{"(reset)", api.OK, 0})
	wantCounts(t, one, 0, 0)
	wantCounts(t, two, 2, 2)
	wantPrint(t, three)
}

// TestP2OnlyRead: a list that goes in is as it was, with the room behind it.
func TestP2OnlyRead(t *testing.T) {
	s := session(t, append(symbols, "(assert (g x a))")...)
	make2 := func() []api.Entry {
		return []api.Entry{{Sym: 6, Args: []string{"1", "2"}, Val: "1"}, {Sym: 0, Val: "1"}, {Sym: 4, Other: true, Val: "2"}}
	}
	room := make2()
	s.Holds(room[:2])
	if !reflect.DeepEqual(room, make2()) {
		t.Errorf("%+v", room)
	}
}
