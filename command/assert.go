package command

import (
	"reason/api"
	"reason/lists"
	"reason/stack"
)

// assert reads a term and holds it (P5).
func (o *order) assert() lists.Fault {
	if len(o.inside) != 2 {
		return o.atCommand(api.ErrForm)
	}
	before := len(o.st.Terms)
	f := o.assertTerm(o.inside[1])
	if f.E != api.OK {
		o.st.KeepTerms(before)
	}
	return f
}

// assertTerm is assert, but for taking out again the terms that joined ahead of a fault.
func (o *order) assertTerm(at int) lists.Fault {
	number, f := o.term(at)
	if f.E != api.OK {
		return f
	}
	if o.st.Term(number).Sort != api.Bool {
		return lists.Fault{E: api.ErrSort, Pos: lists.At(o.items, at).Pos}
	}
	asserted := o.st.Assert(number)
	if !asserted {
		return o.atCommand(api.ErrFull)
	}
	return lists.Fault{}
}

// term reads the term at a place, and tells its number. Lists lie at most MaxDepth deep in each other, and so do its calls.
func (o *order) term(at int) (int, lists.Fault) {
	it := lists.At(o.items, at)
	if !it.IsList() {
		return o.wordTerm(it)
	}
	inside := lists.Inside(o.items, at)
	if len(inside) == 0 {
		return 0, lists.Fault{E: api.ErrForm, Pos: it.Pos}
	}
	head := lists.At(o.items, inside[0])
	if head.IsList() {
		return 0, lists.Fault{E: api.ErrForm, Pos: head.Pos}
	}
	op := stack.Operator(head.Word)
	sym := o.st.Find(head.Word)
	if op == 0 && sym < 0 {
		return 0, lists.Fault{E: api.ErrName, Pos: head.Pos}
	}
	args, f := o.arguments(inside)
	if f.E != api.OK {
		return 0, f
	}
	t, e := o.applied(op, sym, args)
	if e != api.OK {
		return 0, lists.Fault{E: e, Pos: it.Pos}
	}
	return o.join(t, it.Pos)
}

// arguments reads all but the first of a list's items, from the left, as terms.
func (o *order) arguments(inside []int) ([]int, lists.Fault) {
	var args []int
	for k := 1; k < len(inside); k++ {
		n, f := o.term(inside[k])
		if f.E != api.OK {
			return nil, f
		}
		args = append(args, n)
	}
	return args, lists.Fault{}
}

// wordTerm reads a term that is a word.
func (o *order) wordTerm(it lists.Item) (int, lists.Fault) {
	if it.Word == "true" {
		return o.join(stack.Term{Op: stack.True, Sort: api.Bool}, it.Pos)
	}
	if it.Word == "false" {
		return o.join(stack.Term{Op: stack.False, Sort: api.Bool}, it.Pos)
	}
	n, ok := lists.Numeral(it.Word)
	if ok {
		return o.join(stack.Term{Op: stack.Numeral, Num: n, Sort: api.Int}, it.Pos)
	}
	place := o.st.Find(it.Word)
	if place < 0 {
		return 0, lists.Fault{E: api.ErrName, Pos: it.Pos}
	}
	sym := o.st.Symbol(place)
	if len(sym.Takes) > 0 {
		return 0, lists.Fault{E: api.ErrSort, Pos: it.Pos}
	}
	return o.join(stack.Term{Op: stack.Apply, Sym: place, Sort: sym.Sort}, it.Pos)
}

// join lists a term that was read at a byte.
func (o *order) join(t stack.Term, pos int) (int, lists.Fault) {
	n := o.st.Join(t)
	if n < 0 {
		return 0, lists.Fault{E: api.ErrFull, Pos: pos}
	}
	return n, lists.Fault{}
}
