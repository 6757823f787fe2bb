package search

import (
	"reason/api"
	"reason/congruence"
	"reason/stack"
	"strconv"
)

// reading reads a model off what is so, when of every thing it is told.
type reading struct {
	s        *search
	classes  congruence.Classes
	elements []int // by class: its element, and 1; 0, if it has none yet
	count    int   // elements so far
	entries  []api.Entry
}

// read reads a model: a value of each symbol without arguments, and of each other one for the arguments in terms that count.
func (s *search) read() reading {
	r := reading{s: s, classes: s.classes(), elements: make([]int, len(s.st.Terms))}
	for number, t := range s.st.Terms {
		if t.Op == stack.Apply && s.isCounting(number) {
			r.enter(number, t)
		}
	}
	for sym := range s.st.Symbols {
		if len(s.st.Symbols[sym].Takes) == 0 && !r.has(sym, nil) {
			r.entries = append(r.entries, api.Entry{Sym: sym, Val: "0"})
		}
	}
	return r
}

// isCounting tells whether a term counts.
func (s *search) isCounting(number int) bool {
	return number >= 0 && number < len(s.counts) && s.counts[number]
}

// enter takes in the value of a term of a symbol.
func (r *reading) enter(number int, t stack.Term) {
	var args []string
	for _, a := range t.Args {
		value := r.value(a)
		args = append(args, value)
	}
	if r.has(t.Sym, args) {
		return
	}
	value := r.value(number)
	r.entries = append(r.entries, api.Entry{Sym: t.Sym, Args: args, Val: value})
}

// has tells whether there is an entry of a symbol for arguments.
func (r *reading) has(sym int, args []string) bool {
	for i := range r.entries {
		if r.entries[i].Sym == sym && alike(r.entries[i].Args, args) {
			return true
		}
	}
	return false
}

// alike tells whether two lists of values are alike.
func alike(a []string, b []string) bool {
	if len(a) != len(b) {
		return false
	}
	for i := range a {
		if a[i] != b[i] {
			return false
		}
	}
	return true
}

// value is the value of a term.
func (r *reading) value(number int) string {
	switch r.s.st.Term(number).Sort {
	case api.U:
		return r.element(r.classes.Class(number))
	case api.Int:
		n := r.s.worth(number)
		return n.Text()
	}
	if r.s.isTrue(number) {
		return "1"
	}
	return "0"
}

// element is the element of a class, one of its own.
func (r *reading) element(class int) string {
	if class < 0 || class >= len(r.elements) {
		return "0"
	}
	if r.elements[class] == 0 {
		r.count++
		r.elements[class] = r.count
	}
	return strconv.Itoa(r.elements[class] - 1)
}
