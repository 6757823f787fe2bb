package solver_test

import (
	"strings"
	"testing"

	"reason/solver"
)

// lines makes a proof of lines with / between.
func lines(text string) string { return strings.ReplaceAll(text, "/", "\n") + "\n" }

// wantAccepts asks of a text, and looks that asking changes nothing.
func wantAccepts(t *testing.T, s *solver.Session, proof string, want bool) {
	t.Helper()
	before := state(s)
	for i := 0; i < 2; i++ {
		if got := s.Accepts(proof); got != want {
			t.Errorf("%.300q of %q: got %v, want %v", proof, before, got, want)
		}
	}
	if after := state(s); after != before {
		t.Errorf("%.300q changed the stack from %q to %q", proof, before, after)
	}
}

// refuted is a session in which `false` is asserted first, so that term 0 is false and the next are those of the terms that are asserted behind it.
func refuted(t *testing.T, terms ...string) *solver.Session {
	t.Helper()
	s := session(t, symbols...)
	for _, term := range append([]string{"false"}, terms...) {
		do(t, s, step{"(assert " + term + ")", 0, 0})
	}
	return s
}

// closing ends a proof where false is asserted as term 0: so the whole is accepted just if the lines ahead are right.
const closing = "F 0\nD 0 -T0\nR\n"

// wantLines asks whether lines, with / between, are right where false is asserted.
func wantLines(t *testing.T, s *solver.Session, text string, right bool) {
	t.Helper()
	wantAccepts(t, s, lines(text)+closing, right)
}

// TestP9Examples are examples 7 to 11.
func TestP9Examples(t *testing.T) {
	s := session(t, "(assert false)")
	wantAccepts(t, s, "R\n", false)
	wantAccepts(t, s, lines("F 0/D 0 -T0/R"), true)
	s = session(t, "(declare-fun p () Bool)", "(declare-fun q () Bool)", "(assert (and p (not q)))", "(assert (=> p q))")
	wantAccepts(t, s, lines("F 3/F 4/D 3 -T3 +T0/D 3 -T3 +T2/D 2 -T2 -T1/D 4 -T4 -T0 +T1/R"), true)
	s = session(t, "(declare-fun a () U)", "(declare-fun b () U)", "(declare-fun f (U) U)", "(assert (= a b))", "(assert (distinct (f a) (f b)))")
	wantAccepts(t, s, lines("F 2/F 5/D 2 -T2 +E0,1/D 5 -T5 -E3,4/U -E0,1 +E3,4/R"), true)
	s = session(t, "(declare-fun x () Int)", "(assert (<= 3 x))", "(assert (<= x 2))")
	wantAccepts(t, s, lines("F 2/F 4/D 2 -T2 +L0,1/D 4 -T4 +L1,3/A -L0,1 -L1,3 | f 1 1;/R"), true)
	s = session(t, "(declare-fun x () Int)", "(declare-fun y () Int)", "(assert (= (* 2 x) (+ (* 2 y) 1)))")
	wantAccepts(t, s, lines("F 7/D 7 -T7 +E2,6/A -E2,6 | c 1 0; c 0 1 0; f 0 0 1 1;/R"), true)
}

// TestP9EachLineCounts: of each example's proof, none is accepted with a line left out, nor with one that is wrong.
func TestP9EachLineCounts(t *testing.T) {
	s := session(t, "(declare-fun p () Bool)", "(declare-fun q () Bool)", "(assert (and p (not q)))", "(assert (=> p q))")
	proof := strings.Split("F 3/F 4/D 3 -T3 +T0/D 3 -T3 +T2/D 2 -T2 -T1/D 4 -T4 -T0 +T1/R", "/")
	for i := range proof {
		var left []string
		left = append(left, proof[:i]...)
		left = append(left, proof[i+1:]...)
		wantAccepts(t, s, lines(strings.Join(left, "/")), false)
		for _, wrong := range []string{"F 2", "D 3 -T3 +T1", "U +T1", "Q 0 1", "A | f;", "x", ""} {
			with := append(append(append([]string{}, proof[:i]...), wrong), proof[i:]...)
			wantAccepts(t, s, lines(strings.Join(with, "/")), false)
		}
	}
}

// TestP9Texts: what is no text of lines that end with `R` alone.
func TestP9Texts(t *testing.T) {
	s := session(t, "(assert false)", "(assert true)")
	wantAccepts(t, s, "F 0\nD 0 -T0\nR\n", true)
	wantAccepts(t, s, "F 0\nD 0 -T0\nR\nR\n", true)
	wantAccepts(t, s, "F 0\nD 0 -T0\nR -T0\nR +T1\nF 1\nR\n", true)
	for _, text := range []string{
		"", "\n", "R", "R\n", " ", "\x00", "F 0\nD 0 -T0\nR", "F 0\nD 0 -T0\n", "F 0\nD 0 -T0", "F 0\nD 0 -T0\nR\nx", "F 0\nD 0 -T0\nR\n\n", "\nF 0\nD 0 -T0\nR\n", "F 0\n\nD 0 -T0\nR\n",
		"F 0\nD 0 -T0\nR -T0\n", "F 0\nD 0 -T0\nR +T0\n", "F 0\nD 0 -T0\nR\nF 0\n", "F 0\nD 0 -T0\nR\nR +T0\n", "F 0\nD 0 -T0\nR\nD 0 -T0\n",
		" F 0\nD 0 -T0\nR\n", "F 0 \nD 0 -T0\nR\n", "F  0\nD 0 -T0\nR\n", "F\t0\nD 0 -T0\nR\n", "F 0\nD 0 -T0 \nR\n", "F 0\nD 0  -T0\nR\n", "F 0\nD  0 -T0\nR\n", "F 0\nD 0 -T0\nR \n", "F 0\nD 0 -T0\n R\n", "F 0\nD 0 -T0\nR\n ",
		"F 0\r\nD 0 -T0\r\nR\r\n", "F 0\nD 0 -T0\nR\x00\n", "f 0\nD 0 -T0\nR\n", "F 0\nd 0 -T0\nR\n", "F 0\nD 0 -T0\nr\n", "F 0\nD 0 -T0\nRR\n", "F 0\nD 0 -T0\nX\nR\n", "F0\nD 0 -T0\nR\n", "F 0\nD0 -T0\nR\n", "F 0\nD 0-T0\nR\n", "F 0\nD 0 -T0\nR R\n", "F 0\nD 0 -T0\nR |\n", "F 0 D 0 -T0 R\n", "F 0/D 0 -T0/R/",
	} {
		wantAccepts(t, s, text, false)
	}
	empty := solver.New()
	for _, text := range []string{"", "R\n", "R", "F 0\nR\n", "U\nR\n", "A | f;\nR\n", "D 0\nR\n", "Q 0 1\nR\n"} {
		wantAccepts(t, empty, text, false)
	}
}

// TestP9Numbers: a number is a canonical numeral of one to three digits, of a term that is there, wherever one stands.
func TestP9Numbers(t *testing.T) {
	// 1 p, 2 x, 3 y, 4 (<= x y), 5 a, 6 (g x a) and, so that there are some of two digits, more behind.
	s := refuted(t, "p", "(<= x y)", "(g x a)", "(and p q (not p) (not q))", "(= (f a) (f (f a)))")
	places := []string{"F #", "D # +T1 -T1", "Q # 3 +E2,3 -E2,3", "U +T# -T1", "A -L3,# +L3,2 | f 1 1;", "U +E#,3 -E2,3", "A -L3,2 +L3,2 | s # 0 f 1 1 0; f 1 1 0;"}
	good := []string{"1", "1", "2", "1", "2", "2", "2"}
	for i, place := range places {
		wantLines(t, s, strings.ReplaceAll(place, "#", good[i]), true)
		for _, number := range []string{"", "-", "+", "-0", "-1", "+1", "01", "02", "001", "002", "1000", "0001", "1 ", " 1", "1.0", "1a", "a", "x", "1,", ",1", "999", "100", "80", "79", "18446744073709551617", "4294967297", "1_", "1\x00", "٣"} {
			wantLines(t, s, strings.ReplaceAll(place, "#", number), false)
		}
	}
	// The last term that is there, of two digits, and the one behind it.
	for _, c := range []struct {
		text string
		want bool
	}{{"U -T10 +T10", true}, {"U -T13 +T13", true}, {"D 13 +T13 -T13", true}, {"U -E11,12 +E11,12", true}, {"F 13", true}, {"U -T14 +T14", false}, {"F 14", false}, {"D 14 +T14 -T14", false}} {
		wantLines(t, s, c.text, c.want)
	}
}

// TestP9NoNumber: what is no number does not stand for term 0.
func TestP9NoNumber(t *testing.T) {
	// 0 x, 1 y, 2 (<= x y), 3 false, 4 p
	s := session(t, symbols[0], symbols[1], symbols[2], "(assert (<= x y))", "(assert false)", "(assert p)")
	const end = "/F 3/D 3 -T3/R"
	for _, place := range []string{"Q # 1 -E0,1 +L0,1", "U +T2 -T2 +L#,1", "U +T2 -T2 +L1,#", "U +T2 -T2 +E#,1", "A -L#,1 +L0,1 | f 1 1;", "A +L0,1 -L0,1 | s # 5 f 1 1 0; f 1 1 0;"} {
		for _, number := range []string{"0", "", "x", "00", "-0", "99", "5", "0000"} {
			wantAccepts(t, s, lines(strings.ReplaceAll(place, "#", number)+end), number == "0")
		}
	}
	p := session(t, symbols[2], symbols[3], "(assert p)", "(assert false)", "(assert (and p q))")
	for _, place := range []string{"F #", "D # +T0 -T0", "U +T# -T0", "R +T0 -T#"} {
		for _, number := range []string{"0", "", "x", "00", "-0", "99", "5", "0000"} {
			wantAccepts(t, p, lines(strings.ReplaceAll(place, "#", number)+"/F 1/D 1 -T1/R"), number == "0")
		}
	}
}

// TestP9Literals: what is a literal, and of which sorts; it must be one also where it counts for nothing.
func TestP9Literals(t *testing.T) {
	// 1 x, 2 y, 3 (<= x y), 4 a, 5 (f a), 6 (= a (f a)), 7 p
	s := refuted(t, "(<= x y)", "(= a (f a))", "p")
	good := []string{"+T0", "-T0", "+T3", "-T6", "+T7", "+E1,2", "-E1,2", "+E4,5", "-E4,5", "+L1,2", "-L1,2", "+L2,1", "+L1,1", "-L2,2"}
	bad := []string{
		"T0", "0", "+", "-", "+T", "+E", "+L", "+t0", "*T0", "++T0", "+-T0", "+T0+", "+T0,", "+T0,3", "+T,0", "+T 0", "+T00", "+T-0", "+T8", "+T1", "+T4", "-T5", "+TT0", "+0", "T+0",
		"+E1", "+E1,", "+E,2", "+E,", "+E1,1", "+E2,1", "-E5,4", "+E1,4", "+E1,5", "+E0,3", "+E3,7", "+E1,3", "+E0,1", "+E1,2,", "+E1,2,3", "+E01,2", "+E1,02", "+E1 ,2", "+E1;2", "+E1.2", "+E1,8", "+E8,9", "+e1,2", "E1,2",
		"+L1", "+L1,", "+L,1", "+L4,5", "+L4,4", "+L0,3", "+L7,7", "+L1,4", "+L3,1", "+L1,2,1", "+L01,2", "+L1,-2", "+L8,1", "+L1,8", "+l1,2", "L1,2", "+Q1,2", "+U1,2", "+A1,2", "|", "", "f", ";",
	}
	for _, place := range []string{"D 3 +T3 -T3 #", "D 3 # +T3 -T3", "Q 1 2 +L1,2 -L1,2 #", "U +T7 -T7 #", "U # +T7 -T7", "R +T7 -T7 #", "R # +T7 -T7"} {
		for _, l := range good {
			wantLines(t, s, strings.ReplaceAll(place, "#", l), true)
		}
		for _, l := range bad {
			wantLines(t, s, strings.ReplaceAll(place, "#", l), false)
		}
	}
	for _, l := range bad {
		wantLines(t, s, "A -L1,2 +L1,2 "+l+" | f 1 1;", false)
	}
	for _, l := range []string{"+T0", "-T7", "+E1,2", "+E4,5"} {
		wantLines(t, s, "A -L1,2 "+l+" +L1,2 | f 1 1;", true)
	}
}

// TestP9F: the term is asserted, at whatever level; and there is nothing but its number.
func TestP9F(t *testing.T) {
	s := session(t, "(declare-fun p () Bool)", "(assert false)", "(assert (not p))", "(push)", "(assert p)")
	for _, c := range []struct {
		text string
		want bool
	}{
		{"F 0", true}, {"F 1", true}, {"F 2", true}, {"F 3", false}, {"F", false}, {"F 0 0", false}, {"F 0 +T0", false}, {"F +T0", false}, {"F 0 1", false}, {"F 0 |", false},
	} {
		wantLines(t, s, c.text, c.want)
	}
	// Its clause is that the term is true.
	wantAccepts(t, s, lines("F 1/F 2/D 2 -T2 -T1/R"), true)
	do(t, s, step{"(pop)", 0, 0})
	wantLines(t, s, "F 2", true)
	wantLines(t, s, "F 1", false)
	wantAccepts(t, s, lines("F 1/F 2/D 2 -T2 -T1/R"), false)
	wantAccepts(t, s, lines("F 2/D 2 -T2 -T1/R"), false)
	wantAccepts(t, s, lines("F 2/D 2 -T2 -T1/R -T1/R"), false)
	do(t, s, step{"(reset)", 0, 0})
	wantLines(t, s, "F 0", false)
}
