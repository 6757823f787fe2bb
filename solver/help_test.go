package solver_test

import (
	"fmt"
	"strings"
	"testing"

	"reason/api"
	"reason/solver"
)

// step is a command and what it must come to.
type step struct {
	text string
	e    api.Errno
	pos  int
}

// state is all that can be seen of a stack.
func state(s *solver.Session) string {
	return fmt.Sprintf("%d %d\n%s", s.Depth(), s.Held(), s.Print())
}

// plain tells whether a reply says nothing but an error and its place.
func plain(r api.Reply) bool {
	return r.V == api.None && r.Model == nil && r.Proof == "" && r.Spent == 0
}

// do carries out steps with budget 0; a step that faults must leave the stack as it was.
func do(t *testing.T, s *solver.Session, steps ...step) {
	t.Helper()
	for _, c := range steps {
		before := state(s)
		r := s.Do(c.text, 0)
		if r.E != c.e || r.Pos != c.pos {
			t.Errorf("%q: got %v at %d, want %v at %d", c.text, r.E, r.Pos, c.e, c.pos)
		}
		if !plain(r) {
			t.Errorf("%q: the reply says more than it should: %+v", c.text, r)
		}
		if after := state(s); r.E != api.OK && after != before {
			t.Errorf("%q: a fault changed the stack from %q to %q", c.text, before, after)
		}
	}
}

// session is a new session in which commands were done, all of them without a fault.
func session(t *testing.T, texts ...string) *solver.Session {
	t.Helper()
	s := solver.New()
	for _, c := range texts {
		do(t, s, step{c, api.OK, 0})
	}
	return s
}

// symbols declares one of each kind.
var symbols = []string{
	"(declare-fun x () Int)",
	"(declare-fun y () Int)",
	"(declare-fun p () Bool)",
	"(declare-fun q () Bool)",
	"(declare-fun a () U)",
	"(declare-fun f (U) U)",
	"(declare-fun g (Int U) Bool)",
	"(declare-fun h (Int Int) Int)",
}

// wantPrint compares what a session prints with lines.
func wantPrint(t *testing.T, s *solver.Session, lines ...string) {
	t.Helper()
	want := ""
	if len(lines) > 0 {
		want = strings.Join(lines, "\n") + "\n"
	}
	if got := s.Print(); got != want {
		t.Errorf("printed %q, want %q", got, want)
	}
}

// wantCounts compares levels and assertions.
func wantCounts(t *testing.T, s *solver.Session, depth, held int) {
	t.Helper()
	if s.Depth() != depth || s.Held() != held {
		t.Errorf("%d levels and %d assertions, want %d and %d", s.Depth(), s.Held(), depth, held)
	}
}
