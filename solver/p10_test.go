package solver_test

import (
	"fmt"
	"math/rand"
	"strings"
	"testing"

	"reason/api"
	"reason/solver"
)

// check is `(check-sat)` with a budget.
func check(t *testing.T, s *solver.Session, budget int) api.Reply {
	t.Helper()
	before := state(s)
	r := s.Do("(check-sat)", budget)
	if r.E != api.OK || r.Pos != 0 {
		t.Fatalf("P10: a check with budget %d: %v at %d", budget, r.E, r.Pos)
	}
	if after := state(s); after != before {
		t.Fatalf("P10: a check changed the stack from %q to %q", before, after)
	}
	return r
}

// wantBacked tells whether what comes with a verdict holds.
func wantBacked(t *testing.T, s *solver.Session, r api.Reply) {
	t.Helper()
	switch r.V {
	case api.Sat:
		if ok, e := s.Holds(r.Model); !ok || e != api.OK || r.Proof != "" {
			t.Errorf("P10: Sat with model %v: Holds says %v, %v; proof %q; of\n%s", r.Model, ok, e, r.Proof, s.Print())
		}
	case api.Unsat:
		if !s.Accepts(r.Proof) || r.Model != nil {
			t.Errorf("P10: Unsat with model %v and the proof\n%swhich is not taken, of\n%s", r.Model, r.Proof, s.Print())
		}
	default:
		t.Errorf("P10: %v of\n%s", r.V, s.Print())
	}
	if r.Spent < 0 {
		t.Errorf("P10: spent %d", r.Spent)
	}
}

// lesser are budgets below a cost: all of them, or of many some.
func lesser(cost int) []int {
	var list []int
	for b := 0; b < cost; b++ {
		if b < 64 || b > cost-6 || b%(cost/8+1) == 0 {
			list = append(list, b)
		}
	}
	return list
}

// wantCost tells whether a verdict comes just with the budgets that are enough, each time the same.
func wantCost(t *testing.T, s *solver.Session, r api.Reply) {
	t.Helper()
	for _, b := range []int{r.Spent, r.Spent + 1, (r.Spent + api.MaxBudget) / 2, api.MaxBudget} {
		if b > api.MaxBudget {
			continue
		}
		if again := check(t, s, b); fmt.Sprint(again) != fmt.Sprint(r) {
			t.Errorf("P10: %v with budget %d, want %v of\n%s", again, b, r, s.Print())
		}
	}
	for _, b := range lesser(r.Spent) {
		u := check(t, s, b)
		if u.V != api.Unknown || u.Spent <= b || u.Model != nil || u.Proof != "" {
			t.Errorf("P10: %v with budget %d, though the check costs %d of\n%s", u, b, r.Spent, s.Print())
		}
		if again := check(t, s, b); again.Spent != u.Spent {
			t.Errorf("P10: with budget %d once %d is spent and once %d", b, u.Spent, again.Spent)
		}
	}
}

// wantVerdict checks a session in every way: the verdict, what comes with it, what it costs, and what Decide says.
func wantVerdict(t *testing.T, s *solver.Session, want api.Verdict) {
	t.Helper()
	r := check(t, s, api.MaxBudget)
	if r.V != want {
		t.Errorf("P10: %v, want %v of\n%s", r.V, want, s.Print())
	}
	wantBacked(t, s, r)
	wantCost(t, s, r)
	d := s.Decide()
	if s.Bounded() && fmt.Sprint(d) != fmt.Sprint(r) || !s.Bounded() && (d.E != api.ErrArg || !plain(d)) {
		t.Errorf("P11: Decide says %v, a check %v of\n%s", d, r, s.Print())
	}
}

// bools and elements declare symbols without Int.
var bools = []string{"(declare-fun p () Bool)", "(declare-fun q () Bool)", "(declare-fun r () Bool)"}
var elements = []string{
	"(declare-fun a () U)", "(declare-fun b () U)", "(declare-fun c () U)",
	"(declare-fun f (U) U)", "(declare-fun g (U U) U)", "(declare-fun m (U) Bool)", "(declare-fun n (U U) Bool)", "(declare-fun p () Bool)",
}

// judge asserts terms, each of the texts between blanks that stand alone, and wants a verdict.
func judge(t *testing.T, declared []string, want api.Verdict, terms ...string) {
	t.Helper()
	s := session(t, declared...)
	for _, term := range terms {
		do(t, s, step{"(assert " + term + ")", api.OK, 0})
	}
	wantVerdict(t, s, want)
}

// TestCheckBools: P10 of truth values: each operator true and false, alone and together.
func TestCheckBools(t *testing.T) {
	judge(t, nil, api.Sat)
	judge(t, bools, api.Sat)
	judge(t, nil, api.Sat, "true")
	judge(t, nil, api.Unsat, "false")
	judge(t, nil, api.Unsat, "true", "(not true)")
	for _, c := range []struct {
		term string
		want string // by p and q: 00, 01, 10, 11
	}{
		{"p", "0011"}, {"(not p)", "1100"}, {"(and p q)", "0001"}, {"(or p q)", "0111"}, {"(xor p q)", "0110"},
		{"(=> p q)", "1101"}, {"(= p q)", "1001"}, {"(ite p q true)", "1101"}, {"(ite p false q)", "0100"},
		{"(ite p q q)", "0101"}, {"(and p p q q)", "0001"}, {"(or p q p)", "0111"}, {"(= p p)", "1111"}, {"(xor p p)", "0000"},
		{"(=> p p)", "1111"}, {"(and p (not p))", "0000"}, {"(or q (not q))", "1111"}, {"(= p (not p))", "0000"},
		{"(ite p p p)", "0011"}, {"(and p q true)", "0001"}, {"(or p q false)", "0111"}, {"(=> (=> p q) q)", "0111"},
		{"(xor (not p) q)", "1001"}, {"(= (= p q) (xor p q))", "0000"}, {"(and (or p q) (or (not p) (not q)))", "0110"},
	} {
		for way := 0; way < 4; way++ {
			values := []string{"(not p)", "(not q)"}
			if way&2 != 0 {
				values[0] = "p"
			}
			if way&1 != 0 {
				values[1] = "q"
			}
			want, other := api.Unsat, api.Sat
			if c.want[way] == '1' {
				want, other = other, want
			}
			judge(t, bools, want, append(values, c.term)...)
			judge(t, bools, other, append(values, "(not "+c.term+")")...)
			judge(t, bools, want, append([]string{c.term}, values...)...)
		}
		some, all := api.Unsat, api.Unsat
		if strings.Contains(c.want, "1") {
			some = api.Sat
		}
		if strings.Contains(c.want, "0") {
			all = api.Sat
		}
		judge(t, bools, some, c.term)
		judge(t, bools, all, "(not "+c.term+")")
	}
	judge(t, bools, api.Unsat, "(or p q)", "(or p (not q))", "(or (not p) q)", "(or (not p) (not q))")
	judge(t, bools, api.Unsat, "(xor p q)", "(xor q r)", "(xor p r)")
	judge(t, bools, api.Sat, "(xor p q)", "(xor q r)", "(= p r)")
	judge(t, bools, api.Unsat, "p", "p", "(not p)", "(not p)")
	judge(t, bools, api.Unsat, "(and p (not q))", "(=> p q)")
}

// TestCheckElements: P10 of elements, functions and predicates.
func TestCheckElements(t *testing.T) {
	for _, c := range []struct {
		want  api.Verdict
		terms string // with ; between
	}{
		{api.Sat, "(= a b)"}, {api.Sat, "(distinct a b)"}, {api.Sat, "(= a a)"}, {api.Unsat, "(distinct a a)"}, {api.Unsat, "(not (= a a))"},
		{api.Sat, "(not (distinct a a))"}, {api.Unsat, "(distinct a b c a)"}, {api.Sat, "(distinct a b c (f a))"},
		{api.Unsat, "(= a b);(distinct a b)"}, {api.Unsat, "(= a b);(= b c);(distinct a c)"}, {api.Sat, "(= a b);(distinct b c)"},
		{api.Unsat, "(= a b);(distinct (f a) (f b))"}, {api.Sat, "(distinct a b);(= (f a) (f b))"},
		{api.Unsat, "(= a b);(= b c);(distinct (g a c) (g c a))"}, {api.Sat, "(= a b);(distinct (g a c) (g c a))"},
		{api.Unsat, "(= (f a) a);(distinct (f (f (f a))) a)"}, {api.Unsat, "(= (f (f a)) a);(= (f (f (f a))) a);(distinct (f a) a)"},
		{api.Sat, "(= (f (f a)) a);(= (f (f (f (f a)))) a);(distinct (f a) a)"},
		{api.Unsat, "(m a);(= a b);(not (m b))"}, {api.Sat, "(m a);(not (m b))"}, {api.Unsat, "(m a);(not (m b));(= (g a c) (g b c));(= a b)"},
		{api.Unsat, "(n a b);(not (n b a));(= a b)"}, {api.Sat, "(n a b);(not (n b a))"}, {api.Unsat, "(or (n a a) (n b b));(not (n a b));(= a b)"},
		{api.Unsat, "(= (m a) (not (m b)));(= a b)"}, {api.Sat, "(= (m a) (not (m b)));(= (f a) (f b))"},
		{api.Unsat, "(or (= a b) (= a c));(distinct (f a) (f b));(distinct (f a) (f c))"},
		{api.Sat, "(or (= a b) (= a c));(distinct (f a) (f b))"},
		{api.Unsat, "(distinct a b c);(or (= a b) (= b c) (= a c))"}, {api.Unsat, "(not (distinct a b c));(distinct a b);(distinct a c);(distinct b c)"},
		{api.Sat, "(not (distinct a b c));(distinct a b);(distinct a c)"},
		{api.Unsat, "(distinct (ite p a b) a);(distinct (ite p a b) b)"}, {api.Unsat, "p;(distinct (ite p a b) a)"}, {api.Unsat, "(not p);(distinct (ite p a b) b)"},
		{api.Sat, "p;(distinct (ite p a b) b)"}, {api.Unsat, "(= a b);(distinct (f (ite p a b)) (f a))"}, {api.Unsat, "(distinct (ite p a a) a)"},
		{api.Unsat, "(= (ite p a b) c);(= a b);(distinct (f a) (f c))"}, {api.Unsat, "(distinct (ite (= a b) a b) b)"},
		{api.Unsat, "(= (ite (m a) a b) b);(distinct a b);(m a)"}, {api.Sat, "(= (ite (m a) a b) b);(distinct a b)"},
		{api.Unsat, "(or (= (f a) b) (= (f b) b));(or (= a b) (m c));(not (m c));(distinct (f a) b)"},
		{api.Unsat, "(distinct (f a) (f b) (f c));(or (= a b) (= b c) (= c a))"},
		{api.Unsat, "(= (g a b) a);(= (g (g a b) b) c);(distinct a c)"}, {api.Unsat, "(= a (f b));(= b (f a));(distinct (f (f a)) a)"},
	} {
		judge(t, elements, c.want, strings.Split(c.terms, ";")...)
	}
}

// TestCheckNumerals: P10 of numerals, without a symbol of Int.
func TestCheckNumerals(t *testing.T) {
	for _, c := range []struct {
		want  api.Verdict
		terms string
	}{
		{api.Sat, "(< 2 3)"}, {api.Unsat, "(< 3 2)"}, {api.Unsat, "(< 3 3)"}, {api.Sat, "(<= 3 3)"}, {api.Unsat, "(not (<= 3 3))"}, {api.Sat, "(> 3 (- 3))"},
		{api.Unsat, "(= 3 4)"}, {api.Sat, "(distinct 3 4 5)"}, {api.Unsat, "(distinct 3 4 3)"}, {api.Unsat, "(distinct 3 4 (+ 1 2))"}, {api.Sat, "(= 7 (+ 1 2 4))"},
		{api.Sat, "(= (* 3 (- 5)) (- (- 15)  0))"}, {api.Unsat, "(= (* 3 (- 5)) 15)"}, {api.Sat, "(= (- 3 5) (- 2))"},
		{api.Unsat, "(= (ite p 3 4) 5)"}, {api.Sat, "(= (ite p 3 4) 4)"}, {api.Unsat, "(= (ite p 3 4) 4);p"}, {api.Unsat, "(< (ite p 3 4) 3)"},
		{api.Sat, "(= (+ (ite p 1 2) (ite (m a) 10 20)) 21)"}, {api.Unsat, "(= (+ (ite p 1 2) (ite (m a) 10 20)) 22);p"},
		{api.Unsat, "(= (* 2 (ite p 1 2)) 3)"}, {api.Unsat, "(< (ite p (ite (m a) 5 6) 7) (ite (m b) 5 4))"}, {api.Sat, "(<= (ite p (ite (m a) 5 6) 7) (ite (m b) 5 4))"},
		{api.Unsat, "(= (ite p 3 3) 4)"}, {api.Sat, "(= (* 99999999 99999999) (+ 0 (* 99999999 99999999)))"}, {api.Unsat, "(= (* 99999999 (* 99999999 99999999)) (* 99999999 (* 99999999 (- 99999999 1))))"},
		{api.Unsat, "(= (ite p 0 1) (ite p 1 0))"}, {api.Unsat, "(distinct (ite p 0 1) (ite (m a) 0 1) (ite (m b) 0 1))"},
	} {
		judge(t, elements, c.want, strings.Split(c.terms, ";")...)
	}
}

// pigeons is a stack in which more elements are to be different than there are to be equal to.
func pigeons(t *testing.T) *solver.Session {
	s := session(t, "(declare-fun f (U) U)", "(declare-fun a () U)", "(declare-fun b () U)", "(declare-fun c () U)", "(declare-fun d () U)")
	x := "a"
	var list []string
	for i := 0; i < 5; i++ {
		x = "(f " + x + ")"
		list = append(list, x)
		do(t, s, step{fmt.Sprintf("(assert (or (= %s a) (= %s b) (= %s c) (= %s d)))", x, x, x, x), api.OK, 0})
	}
	for i := range list {
		var others []string
		for j := range list {
			if j != i {
				others = append(others, list[j])
			}
		}
		do(t, s, step{"(assert (distinct " + strings.Join(others, " ") + "))", api.OK, 0})
	}
	return s
}

// TestCheckLong: P10 of a check that has to look far.
func TestCheckLong(t *testing.T) {
	s := pigeons(t)
	wantVerdict(t, s, api.Unsat)
	if r := check(t, s, api.MaxBudget); r.Spent == 0 {
		t.Errorf("P10: a long check costs nothing")
	}
	if r := check(t, s, 0); r.V != api.Unknown || r.Spent <= 0 {
		t.Errorf("P10: a long check for nothing: %v", r)
	}
}

// TestCheckStackAlone: P10: a check hangs on the stack alone, not on how it came to be.
func TestCheckStackAlone(t *testing.T) {
	terms := []string{"(or p (= (f a) a))", "(or (not p) (m b))", "(=> (m b) (distinct a b (f b)))", "(distinct (f (f a)) a)"}
	straight := session(t, elements...)
	around := solver.New()
	other := solver.New()
	other.Do("(declare-fun z () Int)", 0)
	for _, l := range elements {
		around.Do("(push)", 0)
		around.Do("(declare-fun w () Bool)", 0)
		around.Do("(assert (and w (not w)))", 0)
		around.Do("(check-sat)", 3)
		around.Do("(pop)", 0)
		around.Do(l, 0)
	}
	for _, term := range terms {
		straight.Do("(assert "+term+")", 0)
		around.Do("(push 2)", 0)
		around.Do("(assert (distinct c (f c) (f (f c)) (g a c)))", 0)
		around.Decide()
		around.Do("(pop 2)", 0)
		around.Do("(assert (and (n c c) "+term+" (= a p)))", 0)
		around.Do("(assert "+term+")", 0)
		other.Do("(check-sat)", 9)
		other.Do("(assert (< z 0))", 0)
	}
	if state(straight) != state(around) {
		t.Fatalf("two ways to two stacks: %q, %q", state(straight), state(around))
	}
	for b := 0; b <= 60; b++ {
		one, two := check(t, straight, b), check(t, around, b)
		if fmt.Sprint(one) != fmt.Sprint(two) {
			t.Errorf("P10: with budget %d the same stack has %v and %v", b, one, two)
		}
	}
	wantVerdict(t, straight, api.Sat)
}

// TestCheckLists: P2 of a model: it is the caller's, at every depth.
func TestCheckLists(t *testing.T) {
	s := session(t, elements...)
	do(t, s, step{"(assert (distinct (g a b) (g b a) (g a a) (f a)))", api.OK, 0}, step{"(assert (n a b))", api.OK, 0})
	want := fmt.Sprint(check(t, s, api.MaxBudget))
	r := check(t, s, api.MaxBudget)
	for i := range r.Model {
		r.Model[i].Args = append(r.Model[i].Args, "x", "y")
	}
	for i := range r.Model {
		for j := range r.Model[i].Args {
			if wild := r.Model[i].Args[j] == "x" || r.Model[i].Args[j] == "y"; wild != (j >= len(r.Model[i].Args)-2) {
				t.Errorf("P2: entries share their lists: %v", r.Model)
			}
			r.Model[i].Args[j] = "z"
		}
		r.Model[i] = api.Entry{Sym: -1}
	}
	_ = append(r.Model, api.Entry{}, api.Entry{})
	if got := fmt.Sprint(check(t, s, api.MaxBudget)); got != want {
		t.Errorf("P2: a model that was changed comes again: %s, want %s", got, want)
	}
}

// TestCheckFaults: P3 of `(check-sat)`: wrong budgets and wrong forms, of which the stack keeps nothing.
func TestCheckFaults(t *testing.T) {
	s := session(t, append(bools, "(assert (xor p q))")...)
	for _, b := range []int{-1, -1 << 31, api.MaxBudget + 1, 1<<31 - 1} {
		if r := s.Do("(check-sat)", b); r.E != api.ErrArg || r.Pos != 0 || !plain(r) {
			t.Errorf("P3: budget %d: %+v", b, r)
		}
	}
	do(t, s, step{"(check-sat 1)", api.ErrForm, 0}, step{" (check-sat ())", api.ErrForm, 1}, step{"((check-sat))", api.ErrForm, 1}, step{"(check-sat", api.ErrSyntax, 10})
	wantVerdict(t, s, api.Sat)
}

// TestCheckLevels: P10 with levels: what is pushed counts, what is popped does not.
func TestCheckLevels(t *testing.T) {
	s := session(t, append(bools, "(assert (or p q))", "(push)", "(assert (not p))")...)
	wantVerdict(t, s, api.Sat)
	do(t, s, step{"(push)", api.OK, 0}, step{"(assert (not q))", api.OK, 0})
	wantVerdict(t, s, api.Unsat)
	do(t, s, step{"(pop)", api.OK, 0})
	wantVerdict(t, s, api.Sat)
	do(t, s, step{"(assert false)", api.OK, 0})
	wantVerdict(t, s, api.Unsat)
	do(t, s, step{"(pop)", api.OK, 0})
	wantVerdict(t, s, api.Sat)
	do(t, s, step{"(assert false)", api.OK, 0}, step{"(reset)", api.OK, 0})
	wantVerdict(t, s, api.Sat)
}

// TestCheckRandom: P10 of many stacks; of those of truth values, and of numerals that hang on them, the verdict is compared with what Holds says of all models.
func TestCheckRandom(t *testing.T) {
	r := rand.New(rand.NewSource(10))
	counts := [4]int{}
	for round := 0; round < 600; round++ {
		g := writer{r: r, elements: round%3 == 1, numerals: round%3 == 2}
		s := session(t, bools...)
		if g.elements {
			s = session(t, elements...)
		}
		for n := 1 + r.Intn(7); n > 0; n-- {
			s.Do("(assert "+g.bool(1+r.Intn(4))+")", 0)
		}
		want := check(t, s, api.MaxBudget).V
		if !g.elements {
			want = api.Unsat
			for way := 0; way < 8; way++ {
				if ok, _ := s.Holds([]api.Entry{{Sym: 0, Val: fmt.Sprint(way & 1)}, {Sym: 1, Val: fmt.Sprint(way >> 1 & 1)}, {Sym: 2, Val: fmt.Sprint(way >> 2)}}); ok {
					want = api.Sat
				}
			}
		}
		wantVerdict(t, s, want)
		counts[want]++
	}
	if counts[api.Sat] < 50 || counts[api.Unsat] < 50 {
		t.Errorf("too few of a kind: %v", counts)
	}
}

// writer writes terms at random.
type writer struct {
	r        *rand.Rand
	elements bool
	numerals bool
}

// bool writes a term of Bool.
func (w writer) bool(depth int) string {
	if depth <= 0 {
		if w.elements {
			return []string{"p", "(m a)", "(m b)", "(n a b)", "(= a b)", "(= b c)", "(= (f a) c)"}[w.r.Intn(7)]
		}
		return []string{"p", "q", "r"}[w.r.Intn(3)]
	}
	if w.numerals && w.r.Intn(3) == 0 {
		return "(" + []string{"=", "distinct", "<", "<=", ">"}[w.r.Intn(5)] + " " + w.numeral(depth-1) + " " + w.numeral(depth-1) + ")"
	}
	one, two, three := w.bool(depth-1), w.bool(depth-1-w.r.Intn(2)), w.bool(depth-2)
	switch k := w.r.Intn(10); {
	case k < 2:
		return "(not " + one + ")"
	case k < 4:
		return "(or " + one + " " + two + " " + three + ")"
	case k < 5:
		return "(and " + one + " " + two + ")"
	case k < 6:
		return "(ite " + one + " " + two + " " + three + ")"
	case k < 7 || !w.elements:
		return "(" + []string{"xor", "=>", "="}[w.r.Intn(3)] + " " + one + " " + two + ")"
	case k < 8:
		return "(n " + w.element(depth-1) + " " + w.element(depth-1) + ")"
	}
	return "(" + []string{"=", "distinct"}[w.r.Intn(2)] + " " + w.element(depth-1) + " " + w.element(depth-1) + ")"
}

// element writes a term of U.
func (w writer) element(depth int) string {
	if depth <= 0 || w.r.Intn(4) == 0 {
		return []string{"a", "b", "c"}[w.r.Intn(3)]
	}
	switch w.r.Intn(4) {
	case 0:
		return "(g " + w.element(depth-1) + " " + w.element(depth-1) + ")"
	case 1:
		return "(ite " + w.bool(depth-1) + " " + w.element(depth-1) + " " + w.element(depth-1) + ")"
	}
	return "(f " + w.element(depth-1) + ")"
}

// numeral writes a term of Int without a symbol of Int.
func (w writer) numeral(depth int) string {
	if depth <= 0 || w.r.Intn(4) == 0 {
		return []string{"0", "1", "2", "7", "(- 3)"}[w.r.Intn(5)]
	}
	switch w.r.Intn(4) {
	case 0:
		return "(+ " + w.numeral(depth-1) + " " + w.numeral(depth-1) + ")"
	case 1:
		return "(* " + fmt.Sprint(w.r.Intn(4)) + " " + w.numeral(depth-1) + ")"
	}
	return "(ite " + w.bool(depth-1) + " " + w.numeral(depth-1) + " " + w.numeral(depth-1) + ")"
}
