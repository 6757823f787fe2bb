package solver_test

import (
	"fmt"
	"reflect"
	"strings"
	"testing"

	"reason/api"
	"reason/solver"
)

// entries reads a model: SYM=VAL, SYM:ARG,ARG=VAL, SYM*=VAL, where SYM is the name of one of symbols.
func entries(t *testing.T, text string) []api.Entry {
	t.Helper()
	var m []api.Entry
	for _, word := range strings.Fields(text) {
		head, val, _ := strings.Cut(word, "=")
		var e api.Entry
		e.Val = val
		head, e.Other = strings.CutSuffix(head, "*")
		name, args, some := strings.Cut(head, ":")
		if some {
			e.Args = strings.Split(args, ",")
		}
		e.Sym = -1
		for i, s := range symbols {
			if strings.HasPrefix(s, "(declare-fun "+name+" ") {
				e.Sym = i
			}
		}
		if e.Sym < 0 {
			t.Fatalf("%q: no such symbol", word)
		}
		m = append(m, e)
	}
	return m
}

// wantHolds asks of a model, and looks that the answer changes neither it nor the stack.
func wantHolds(t *testing.T, s *solver.Session, m []api.Entry, want bool, wantE api.Errno) {
	t.Helper()
	before := state(s)
	shown := fmt.Sprintf("%#v", m)
	got, e := s.Holds(m)
	if got != want || e != wantE {
		t.Errorf("of %s in %q: got %v %v, want %v %v", shown, before, got, e, want, wantE)
	}
	if after := fmt.Sprintf("%#v", m); after != shown {
		t.Errorf("the list %s became %s", shown, after)
	}
	if after := state(s); after != before {
		t.Errorf("asking changed the stack from %q to %q", before, after)
	}
}

// TestP8Example is example 6, and what is so of an empty stack.
func TestP8Example(t *testing.T) {
	s := session(t, "(declare-fun x () Int)", "(declare-fun p () Bool)", "(assert (and p (<= x (- 5))))")
	wantHolds(t, s, nil, false, api.OK)
	wantHolds(t, s, []api.Entry{{Sym: 0, Val: "-5"}, {Sym: 1, Val: "1"}}, true, api.OK)
	wantHolds(t, s, []api.Entry{{Sym: 0, Val: "05"}}, false, api.ErrModel)
	empty := solver.New()
	wantHolds(t, empty, nil, true, api.OK)
	wantHolds(t, empty, []api.Entry{}, true, api.OK)
	wantHolds(t, empty, []api.Entry{{}}, false, api.ErrModel)
	wantHolds(t, empty, []api.Entry{{Val: "0"}}, false, api.ErrModel)
}

// TestP8NoSymbol: Sym is none of the stack's, also once a level is gone; all entries are looked at, and whether an assertion is false does not matter.
func TestP8NoSymbol(t *testing.T) {
	const maxInt = int(^uint(0) >> 1)
	s := session(t, symbols[:3]...)
	for _, sym := range []int{-1, 3, 4, 8, 80, maxInt, -maxInt - 1} {
		wantHolds(t, s, []api.Entry{{Sym: sym, Val: "0"}}, false, api.ErrModel)
		wantHolds(t, s, []api.Entry{{Sym: sym, Other: true, Val: "0"}}, false, api.ErrModel)
		wantHolds(t, s, []api.Entry{{Sym: 0, Val: "0"}, {Sym: 1, Val: "0"}, {Sym: sym, Val: "0"}}, false, api.ErrModel)
	}
	s = session(t, symbols[0], "(push)", symbols[1], "(assert (= x y))")
	wantHolds(t, s, []api.Entry{{Sym: 1, Val: "0"}}, true, api.OK)
	do(t, s, step{"(assert false)", api.OK, 0})
	wantHolds(t, s, []api.Entry{{Sym: 1, Val: "0"}}, false, api.OK)
	wantHolds(t, s, []api.Entry{{Sym: 1, Val: "0"}, {Sym: 2, Val: "0"}}, false, api.ErrModel)
	do(t, s, step{"(pop)", api.OK, 0})
	wantHolds(t, s, []api.Entry{{Sym: 1, Val: "0"}}, false, api.ErrModel)
	wantHolds(t, s, []api.Entry{{Sym: 0, Val: "0"}}, true, api.OK)
	do(t, s, step{"(reset)", api.OK, 0})
	wantHolds(t, s, []api.Entry{{Sym: 0, Val: "0"}}, false, api.ErrModel)
}

// TestP8Values: what is a value of each sort, as Val and as an argument, in a stack where nothing is asserted.
func TestP8Values(t *testing.T) {
	s := session(t, symbols...)
	long := strings.Repeat("7", 300)
	for _, c := range []struct {
		text       string
		truth      bool
		number     bool
		ofElements bool
	}{
		{"0", true, true, true}, {"1", true, true, true}, {"2", false, true, true}, {"10", false, true, true},
		{"-1", false, true, false}, {"-10", false, true, false}, {long, false, true, true}, {"-" + long, false, true, false},
		{"99999999999999999999", false, true, true},
		{"", false, false, false}, {"-", false, false, false}, {"-0", false, false, false}, {"00", false, false, false},
		{"01", false, false, false}, {"-01", false, false, false}, {"--1", false, false, false}, {"+1", false, false, false},
		{" 1", false, false, false}, {"1 ", false, false, false}, {"1\n", false, false, false}, {"x", false, false, false},
		{"1x", false, false, false}, {"true", false, false, false}, {"false", false, false, false}, {"(- 1)", false, false, false},
		{long + "x", false, false, false}, {"0" + long, false, false, false}, {"1\x00", false, false, false}, {"\xff", false, false, false},
	} {
		want := func(fits bool, m ...api.Entry) {
			t.Helper()
			e := api.OK
			if !fits {
				e = api.ErrModel
			}
			wantHolds(t, s, m, fits, e)
		}
		want(c.truth, api.Entry{Sym: 2, Val: c.text})
		want(c.truth, api.Entry{Sym: 2, Other: true, Val: c.text})
		want(c.number, api.Entry{Sym: 0, Val: c.text})
		want(c.number, api.Entry{Sym: 0, Other: true, Val: c.text})
		want(c.ofElements, api.Entry{Sym: 4, Val: c.text})
		want(c.ofElements, api.Entry{Sym: 5, Other: true, Val: c.text})
		want(c.truth, api.Entry{Sym: 6, Args: []string{"3", "3"}, Val: c.text})
		want(c.number, api.Entry{Sym: 7, Args: []string{"-3", "3"}, Val: c.text})
		want(c.ofElements, api.Entry{Sym: 5, Args: []string{c.text}, Val: "0"})
		want(c.number, api.Entry{Sym: 6, Args: []string{c.text, "0"}, Val: "0"})
		want(c.ofElements, api.Entry{Sym: 6, Args: []string{"0", c.text}, Val: "0"})
		want(c.number, api.Entry{Sym: 7, Args: []string{"0", c.text}, Val: "0"})
		want(c.number, api.Entry{Sym: 1, Val: "5"}, api.Entry{Sym: 0, Val: "-5"}, api.Entry{Sym: 0, Val: c.text})
	}
}

// TestP8Args: as many arguments as the symbol takes without Other, none with it.
func TestP8Args(t *testing.T) {
	s := session(t, symbols...)
	for sym, takes := range []int{0, 0, 0, 0, 0, 1, 2, 2} {
		for n := 0; n < 5; n++ {
			args := []string{"1", "1", "1", "1", "1"}[:n]
			fits, e := n == takes, api.OK
			if !fits {
				e = api.ErrModel
			}
			wantHolds(t, s, []api.Entry{{Sym: sym, Args: args, Val: "1"}}, fits, e)
			fits, e = n == 0, api.OK
			if !fits {
				e = api.ErrModel
			}
			wantHolds(t, s, []api.Entry{{Sym: sym, Other: true, Args: args, Val: "1"}}, fits, e)
		}
		wantHolds(t, s, []api.Entry{{Sym: sym, Other: true, Val: "1"}}, true, api.OK)
	}
}

// TestP8Symbols: the value of a symbol: of its first entry with just these arguments, else of its first with Other, else `0`.
func TestP8Symbols(t *testing.T) {
	for _, c := range []struct {
		term  string
		model string
		want  bool
	}{
		{"(= x 0)", "", true},
		{"p", "", false},
		{"(= (h x y) 0)", "", true},
		{"(= (f a) a)", "", true},
		{"(= (f a) a)", "a=1", false},
		{"(g x a)", "", false},
		{"(= x 3)", "x=3 x=4", true},
		{"(= x 4)", "x=3 x=4", false},
		{"(= x 3)", "y=5 x=3", true},
		{"(= x 3)", "x*=3", true},
		{"(= x 3)", "x*=3 x*=4", true},
		{"(= x 4)", "x*=3 x=4", true},
		{"(= x 4)", "x=4 x*=3", true},
		{"p", "p=1", true},
		{"p", "p=0", false},
		{"p", "p=0 p=1", false},
		{"p", "q=1", false},
		{"p", "p*=1", true},
		{"(= (h 1 2) 7)", "h:1,2=7", true},
		{"(= (h 2 1) 7)", "h:1,2=7", false},
		{"(= (h 2 1) 0)", "h:1,2=7", true},
		{"(= (h 1 2) 7)", "h:1,3=6 h:2,2=5 h:1,2=7 h:1,2=8", true},
		{"(= (h 1 2) 7)", "h:1,2=8 h:1,2=7", false},
		{"(= (h 1 2) 7)", "h*=8 h:1,2=7", true},
		{"(= (h 1 3) 8)", "h*=8 h:1,2=7 h*=9", true},
		{"(= (h 1 3) 8)", "h:1,2=7 h*=8", true},
		{"(= (h 1 3) 0)", "h:1,2=7", true},
		{"(= (h 1 12) 7)", "h:11,2=7", false},
		{"(= (h (- 1) 2) 7)", "h:-1,2=7", true},
		{"(= (h 1 2) 7)", "h:-1,2=7", false},
		{"(= (h (- x) (+ x 2)) 7)", "x=3 h:-3,5=7", true},
		{"(= (h (h 1 2) (h 2 1)) 6)", "h:1,2=3 h:2,1=4 h:3,4=6", true},
		{"(= (h (h 1 2) (h 2 1)) 6)", "h:1,2=3 h:2,1=4 h:4,3=6", false},
		{"(= (f (f a)) a)", "a=5 f:5=6 f:6=5", true},
		{"(= (f (f a)) a)", "a=5 f:5=6 f:6=7 f*=5", false},
		{"(= (f (f a)) a)", "a=5 f:5=6 f*=5", true},
		{"(g x a)", "x=-2 a=2 g:-2,2=1", true},
		{"(g x a)", "x=2 a=2 g:-2,2=1", false},
		{"(g x a)", "g*=1 g:0,0=0", false},
		{"(= (h x x) 1)", "x=123456789012345678901234567890 h:123456789012345678901234567890,123456789012345678901234567890=1", true},
		{"(= (h x x) 1)", "x=123456789012345678901234567890 h:123456789012345678901234567890,123456789012345678901234567891=1", false},
		{"(= (f a) a)", "a=123456789012345678901234567890 f:123456789012345678901234567890=123456789012345678901234567890", true},
		{"(= (f a) a)", "a=123456789012345678901234567890 f:123456789012345678901234567890=123456789012345678901234567891", false},
	} {
		s := session(t, append(append([]string{}, symbols...), "(assert "+c.term+")")...)
		wantHolds(t, s, entries(t, c.model), c.want, api.OK)
	}
}

// TestP8Operators: each operator, at all ways in which its arguments can be.
func TestP8Operators(t *testing.T) {
	for _, c := range []struct {
		term  string
		model string
		want  bool
	}{
		{"true", "", true},
		{"false", "", false},
		{"(not p)", "", true}, {"(not p)", "p=1", false},
		{"(and p q)", "", false}, {"(and p q)", "p=1", false}, {"(and p q)", "q=1", false}, {"(and p q)", "p=1 q=1", true},
		{"(and p p p q)", "p=1 q=1", true}, {"(and p p p q)", "p=1", false}, {"(and q p p p)", "p=1", false}, {"(and p q p p)", "p=1", false},
		{"(or p q)", "", false}, {"(or p q)", "p=1", true}, {"(or p q)", "q=1", true}, {"(or p q)", "p=1 q=1", true},
		{"(or p p p q)", "q=1", true}, {"(or q p p)", "q=1", true}, {"(or p p p p)", "q=1", false},
		{"(xor p q)", "", false}, {"(xor p q)", "p=1", true}, {"(xor p q)", "q=1", true}, {"(xor p q)", "p=1 q=1", false},
		{"(=> p q)", "", true}, {"(=> p q)", "p=1", false}, {"(=> p q)", "q=1", true}, {"(=> p q)", "p=1 q=1", true},
		{"(= p q)", "", true}, {"(= p q)", "p=1", false}, {"(= p q)", "q=1", false}, {"(= p q)", "p=1 q=1", true},
		{"(= x y)", "x=2 y=2", true}, {"(= x y)", "x=2 y=-2", false}, {"(= x y)", "x=2", false}, {"(= x y)", "x=-2 y=-2", true},
		{"(= a (f a))", "a=2", false}, {"(= a (f a))", "a=2 f*=2", true},
		{"(distinct x y)", "x=2 y=2", false}, {"(distinct x y)", "x=2 y=3", true},
		{"(distinct x y 5 6)", "x=2 y=3", true}, {"(distinct x y 5 6)", "x=2 y=6", false}, {"(distinct x y 5 6)", "x=6 y=3", false}, {"(distinct x y 5 6)", "x=5 y=3", false}, {"(distinct x y 5 6)", "x=3 y=3", false}, {"(distinct x 5 5)", "x=3", false},
		{"(distinct a (f a))", "", false}, {"(distinct a (f a) (f (f a)))", "f:0=1 f:1=2", true}, {"(distinct a (f a) (f (f a)))", "f:0=1 f:1=0", false},
		{"(<= x y)", "x=2 y=3", true}, {"(<= x y)", "x=3 y=3", true}, {"(<= x y)", "x=4 y=3", false}, {"(<= x y)", "x=-4 y=-3", true}, {"(<= x y)", "x=-3 y=-4", false}, {"(<= x y)", "x=-3 y=0", true},
		{"(< x y)", "x=2 y=3", true}, {"(< x y)", "x=3 y=3", false}, {"(< x y)", "x=4 y=3", false}, {"(< x y)", "x=-4 y=3", true},
		{"(>= x y)", "x=2 y=3", false}, {"(>= x y)", "x=3 y=3", true}, {"(>= x y)", "x=4 y=3", true},
		{"(> x y)", "x=2 y=3", false}, {"(> x y)", "x=3 y=3", false}, {"(> x y)", "x=4 y=3", true},
		{"(ite p q true)", "", true}, {"(ite p q true)", "p=1", false}, {"(ite p q true)", "p=1 q=1", true}, {"(ite p true q)", "", false},
		{"(= (ite p x y) 5)", "x=5 y=6", false}, {"(= (ite p x y) 5)", "x=5 y=6 p=1", true}, {"(= (ite p x y) 5)", "x=6 y=5", true}, {"(= (ite p x y) 5)", "x=6 y=5 p=1", false},
		{"(= (ite p a (f a)) a)", "a=3", false}, {"(= (ite p a (f a)) a)", "a=3 p=1", true},
		{"(= (+ x y) 5)", "x=2 y=3", true}, {"(= (+ x y) 5)", "x=8 y=-3", true}, {"(= (+ x y) 5)", "x=-2 y=-3", false},
		{"(= (+ x y 10 1) 5)", "x=-2 y=-4", true}, {"(= (+ x x x x) y)", "x=-3 y=-12", true},
		{"(= (- x) y)", "x=3 y=-3", true}, {"(= (- x) y)", "x=-3 y=3", true}, {"(= (- x) y)", "x=3 y=3", false}, {"(= (- x) y)", "", true},
		{"(= (- x y) 5)", "x=8 y=3", true}, {"(= (- x y) 5)", "x=3 y=8", false}, {"(= (- x y) (- 5))", "x=3 y=8", true}, {"(= (- x y) 5)", "x=3 y=-2", true},
		{"(= (* 3 x) y)", "x=4 y=12", true}, {"(= (* 3 x) y)", "x=-4 y=-12", true}, {"(= (* 3 x) y)", "x=4 y=7", false},
		{"(= (* x 3) y)", "x=4 y=12", true}, {"(= (* (- 3) x) y)", "x=4 y=-12", true}, {"(= (* x (- 3)) y)", "x=-4 y=12", true}, {"(= (* 0 x) 0)", "x=-4", true},
		{"(= (* 3 (- 4)) (- 12))", "", true}, {"(= (- 0) 0)", "", true},
	} {
		s := session(t, append(append([]string{}, symbols...), "(assert "+c.term+")")...)
		wantHolds(t, s, entries(t, c.model), c.want, api.OK)
		not := session(t, append(append([]string{}, symbols...), "(assert (not "+c.term+"))")...)
		wantHolds(t, not, entries(t, c.model), !c.want, api.OK)
	}
}

// TestP8Great: Int is exact, whatever its size.
func TestP8Great(t *testing.T) {
	nines := strings.Repeat("9", 100)
	round := "1" + strings.Repeat("0", 100)
	for _, c := range []struct {
		term string
		x, y string
		want bool
	}{
		{"(= (+ x 1) y)", nines, round, true},
		{"(= (+ x 1) y)", nines, nines, false},
		{"(= (- y 1) x)", nines, round, true},
		{"(= (- (- x) 1) y)", nines, "-" + round, true},
		{"(= (+ x y) 1)", "-" + nines, round, true},
		{"(= (+ x y) 0)", "-" + nines, round, false},
		{"(= (- x y) 0)", round, round, true},
		{"(= (* 10 x) y)", round, round + "0", true},
		{"(= (* 10 x) y)", round, round, false},
		{"(= (* (- 99999999) x) y)", round, "-99999999" + strings.Repeat("0", 100), true},
		{"(= (* 99999999 x) y)", "99999999999", "9999999899900000001", true},
		{"(< x y)", nines, round, true},
		{"(< y x)", nines, round, false},
		{"(< x y)", "-" + nines, "-" + round, false},
		{"(<= x y)", "-" + round, nines, true},
		{"(= x y)", "18446744073709551616", "0", false},
		{"(= x y)", "4294967296", "0", false},
		{"(= (+ x x) y)", "9223372036854775808", "0", false},
		{"(= (+ x x) y)", "9223372036854775808", "18446744073709551616", true},
		{"(= (+ x x) y)", "9223372036854775807", "-2", false},
		{"(= (* 4 x) y)", "4611686018427387904", "0", false},
		{"(= (- x) x)", "-9223372036854775808", "0", false},
		{"(< x (+ x 1))", "9223372036854775807", "0", true},
		{"(distinct x y 1)", round + "1", round + "0", true},
	} {
		s := session(t, symbols[0], symbols[1], "(assert "+c.term+")")
		wantHolds(t, s, []api.Entry{{Sym: 0, Val: c.x}, {Sym: 1, Val: c.y}}, c.want, api.OK)
	}
	grows := session(t, symbols[0], symbols[1],
		"(assert (= (* 99999999 (* 99999999 (* 99999999 (* 99999999 x)))) y))")
	wantHolds(t, grows, []api.Entry{{Sym: 0, Val: "1"}, {Sym: 1, Val: "99999996000000059999999600000001"}}, true, api.OK)
	wantHolds(t, grows, []api.Entry{{Sym: 0, Val: "1"}, {Sym: 1, Val: "99999996000000059999999600000000"}}, false, api.OK)
}

// TestP8Every: every assertion of every level must be true, and those that are gone no more.
func TestP8Every(t *testing.T) {
	s := session(t, symbols[0], symbols[2], "(assert (<= 0 x))", "(push)", "(assert (<= x 9))", "(assert p)")
	wantHolds(t, s, []api.Entry{{Sym: 0, Val: "5"}, {Sym: 1, Val: "1"}}, true, api.OK)
	wantHolds(t, s, []api.Entry{{Sym: 0, Val: "-1"}, {Sym: 1, Val: "1"}}, false, api.OK)
	wantHolds(t, s, []api.Entry{{Sym: 0, Val: "10"}, {Sym: 1, Val: "1"}}, false, api.OK)
	wantHolds(t, s, []api.Entry{{Sym: 0, Val: "5"}, {Sym: 1, Val: "0"}}, false, api.OK)
	do(t, s, step{"(pop)", api.OK, 0})
	wantHolds(t, s, []api.Entry{{Sym: 0, Val: "10"}}, true, api.OK)
	wantHolds(t, s, []api.Entry{{Sym: 0, Val: "-1"}}, false, api.OK)
}

// TestP8Lists: a list is only read, with the room behind it, at every depth, and not kept; and lists may be long.
func TestP8Lists(t *testing.T) {
	s := session(t, append(append([]string{}, symbols...), "(assert (= (h x 2) 7))")...)
	room := []string{"1", "2", "rest"}
	m := []api.Entry{{Sym: 0, Val: "1"}, {Sym: 7, Args: room[:2], Val: "7"}, {Sym: 99, Args: []string{"z"}, Val: "behind"}}
	same := []api.Entry{{Sym: 0, Val: "1"}, {Sym: 7, Args: []string{"1", "2"}, Val: "7"}, {Sym: 99, Args: []string{"z"}, Val: "behind"}}
	wantHolds(t, s, m[:2], true, api.OK)
	if !reflect.DeepEqual(m, same) || room[2] != "rest" {
		t.Errorf("the list became %v, its room %v", m, room)
	}
	m[1].Args[0] = "5"
	m[1].Val = "6"
	wantHolds(t, s, nil, false, api.OK)
	wantHolds(t, s, same[:2], true, api.OK)

	var long []api.Entry
	for i := 0; i < 100000; i++ {
		long = append(long, api.Entry{Sym: 7, Args: []string{"1", fmt.Sprint(100000 - i)}, Val: "7"})
	}
	long = append(long, api.Entry{Sym: 0, Val: "1"})
	wantHolds(t, s, long, true, api.OK)
	long[99998].Val = "8"
	wantHolds(t, s, long, false, api.OK)
	long = append(long, api.Entry{Sym: 0, Val: strings.Repeat("9", 1000000)})
	wantHolds(t, s, long, false, api.OK)
	long = append(long, api.Entry{Sym: 0, Val: strings.Repeat("9", 1000000) + "x"})
	wantHolds(t, s, long, false, api.ErrModel)
}
