package solver_test

import (
	"fmt"
	"strings"
	"testing"

	"reason/api"
)

func TestP4Form(t *testing.T) {
	do(t, session(t),
		step{"(declare-fun)", api.ErrForm, 0},
		step{"(declare-fun x)", api.ErrForm, 0},
		step{"(declare-fun x ())", api.ErrForm, 0},
		step{" (declare-fun x () Int Int)", api.ErrForm, 1},
		step{"(declare-fun (x) Int (Int))", api.ErrForm, 13},
		step{"(declare-fun () () Int)", api.ErrForm, 13},
		step{"(declare-fun x Int Int)", api.ErrForm, 15},
		step{"(declare-fun x Int (Int))", api.ErrForm, 15},
		step{"(declare-fun x (Int ()) (Int))", api.ErrForm, 20},
		step{"(declare-fun x (Int U (U) ()) Int)", api.ErrForm, 22},
		step{"(declare-fun x () (Int))", api.ErrForm, 18},
		step{"(declare-fun x () ())", api.ErrForm, 18},
		step{"(declare-fun 9 (V V V (V)) V)", api.ErrForm, 22},
	)
}

func TestP4Name(t *testing.T) {
	s := session(t)
	bad := strings.Fields("not and or xor => = distinct <= < >= > ite + - * true false Bool Int U " +
		"9 0x -x +a *b <a >a =a ninebytes aaaaaaaaaaaaaaaaaaaa")
	for _, name := range bad {
		do(t, s, step{"(declare-fun " + name + " () Int)", api.ErrName, 13})
	}
	do(t, s, step{"( declare-fun  9 (V V V) V)", api.ErrName, 15})
	wantPrint(t, s)
	good := strings.Fields("eightbyt A z True bool assert a-+*<>=9 declare Ite NOT u push")
	for _, name := range good {
		line := "(declare-fun " + name + " () Int)"
		do(t, s, step{line, api.OK, 0})
		wantPrint(t, s, line)
		do(t, s, step{"(reset)", api.OK, 0})
	}
}

func TestP4Again(t *testing.T) {
	s := session(t, "(declare-fun f (Int) U)", "(push)")
	do(t, s,
		step{"(declare-fun f (Int) U)", api.ErrAgain, 13},
		step{"(declare-fun f () Bool)", api.ErrAgain, 13},
		step{"(declare-fun f (V V V) V)", api.ErrAgain, 13},
		step{"(declare-fun F () Bool)", api.OK, 0},
		step{"(declare-fun ff () Bool)", api.OK, 0},
		step{"(pop)", api.OK, 0},
		step{"(declare-fun F () Bool)", api.OK, 0},
	)
}

func TestP4Sort(t *testing.T) {
	s := session(t)
	do(t, s,
		step{"(declare-fun x (Int U Int) U)", api.ErrSort, 15},
		step{"(declare-fun x (V Int Int) V)", api.ErrSort, 15},
		step{"(declare-fun x (V W) V)", api.ErrSort, 16},
		step{"(declare-fun x (Int W) V)", api.ErrSort, 20},
		step{"(declare-fun x (Bool) U)", api.ErrSort, 16},
		step{"(declare-fun x (U Bool) U)", api.ErrSort, 18},
		step{"(declare-fun x (Int) V)", api.ErrSort, 21},
		step{"(declare-fun x () int)", api.ErrSort, 18},
		step{"(declare-fun x () 1)", api.ErrSort, 18},
	)
	wantPrint(t, s)
	var lines []string
	for _, takes := range []string{"", "Int", "U", "Int Int", "Int U", "U Int", "U U"} {
		for _, sort := range []string{"Bool", "Int", "U"} {
			line := "(declare-fun x (" + takes + ") " + sort + ")"
			do(t, s, step{line, api.OK, 0})
			wantPrint(t, s, line)
			do(t, s, step{"(reset)", api.OK, 0})
			lines = append(lines, line)
		}
	}
	if len(lines) != 21 {
		t.Error(len(lines))
	}
}

func TestP4Full(t *testing.T) {
	s := session(t)
	for k := range 8 {
		if k == 4 {
			do(t, s, step{"(push)", api.OK, 0})
		}
		do(t, s, step{fmt.Sprintf("(declare-fun x%d () Int)", k), api.OK, 0})
	}
	do(t, s,
		step{"(declare-fun y () Int)", api.ErrFull, 0},
		step{"  (declare-fun y () Int)", api.ErrFull, 2},
		step{"(declare-fun y () V)", api.ErrSort, 18},
		step{"(declare-fun x7 () Int)", api.ErrAgain, 13},
		step{"(declare-fun and () Int)", api.ErrName, 13},
		step{"(declare-fun y)", api.ErrForm, 0},
		step{"(pop)", api.OK, 0},
		step{"(declare-fun y () Int)", api.OK, 0},
	)
}
