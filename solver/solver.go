// Package solver: sessions: a stack of what is declared and asserted, and checks of it: see DOC.md.
package solver

import (
	"reason/api"
	"reason/bounds"
	"reason/command"
	"reason/model"
	"reason/proofs"
	"reason/search"
	"reason/stack"
)

// Session is a stack.
type Session struct {
	stack stack.Stack
}

// New makes an empty stack (P3).
func New() *Session { return &Session{} }

// Do carries out a command (P3 to P6, P10).
func (s *Session) Do(text string, budget int) api.Reply {
	if budget < 0 || budget > api.MaxBudget {
		return api.Reply{E: api.ErrArg}
	}
	if len(text) > api.MaxText {
		return api.Reply{E: api.ErrLong}
	}
	asked, f := command.Run(&s.stack, text)
	if f.E != api.OK {
		return api.Reply{E: f.E, Pos: f.Pos}
	}
	if asked {
		return search.Check(&s.stack, budget)
	}
	return api.Reply{}
}

// Decide checks a bounded stack, whatever that costs (P11).
func (s *Session) Decide() api.Reply {
	if !bounds.Bounded(&s.stack) {
		return api.Reply{E: api.ErrArg}
	}
	return search.Check(&s.stack, -1)
}

// Bounded tells whether the stack is bounded (P11).
func (s *Session) Bounded() bool { return bounds.Bounded(&s.stack) }

// Accepts tells whether a text is a proof that not all that is asserted can be true (P9).
func (s *Session) Accepts(proof string) bool { return proofs.Accepts(&s.stack, proof) }

// Holds tells whether all that is asserted is true in a model (P8).
func (s *Session) Holds(m []api.Entry) (bool, api.Errno) { return model.Holds(&s.stack, m) }

// Depth tells how many levels are pushed (P7).
func (s *Session) Depth() int { return s.stack.Depth() }

// Held tells how many assertions there are (P7).
func (s *Session) Held() int { return len(s.stack.Held) }

// Print tells the stack as commands (P7).
func (s *Session) Print() string { return s.stack.Print() }
