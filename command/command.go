// Package command carries out commands on a stack (P3 to P6).
package command

import (
	"reason/api"
	"reason/lists"
	"reason/stack"
)

// order is a command that is being carried out: its items, and the places of those of the outermost list.
type order struct {
	st     *stack.Stack
	items  []lists.Item
	inside []int
}

// Run carries out a command, and tells whether it asks for a check, which is not carried out here. With a fault the stack is as it was.
func Run(st *stack.Stack, text string) (bool, lists.Fault) {
	items, f := lists.Read(text)
	if f.E != api.OK {
		return false, f
	}
	o := order{st: st, items: items, inside: lists.Inside(items, 0)}
	if len(o.inside) == 0 {
		return false, o.atCommand(api.ErrForm)
	}
	word := o.item(0).Word
	switch word {
	case "declare-fun":
		f = o.declare()
	case "assert":
		f = o.assert()
	case "push":
		f = o.push()
	case "pop":
		f = o.pop()
	case "reset":
		f = o.reset()
	case "check-sat":
		f = o.alone()
	default:
		f = lists.Fault{E: api.ErrForm, Pos: o.item(0).Pos}
	}
	return word == "check-sat" && f.E == api.OK, f
}

// item tells the k-th item of the command.
func (o *order) item(k int) lists.Item {
	if k < 0 || k >= len(o.inside) {
		return lists.Item{}
	}
	return lists.At(o.items, o.inside[k])
}

// atCommand is a fault at the command's bracket.
func (o *order) atCommand(e api.Errno) lists.Fault {
	return lists.Fault{E: e, Pos: lists.At(o.items, 0).Pos}
}

// alone faults a command with more than its first word.
func (o *order) alone() lists.Fault {
	if len(o.inside) != 1 {
		return o.atCommand(api.ErrForm)
	}
	return lists.Fault{}
}

// reset empties the stack.
func (o *order) reset() lists.Fault {
	f := o.alone()
	if f.E == api.OK {
		o.st.Reset()
	}
	return f
}

// push opens levels.
func (o *order) push() lists.Fault {
	n, f := o.count()
	if f.E != api.OK {
		return f
	}
	pushed := o.st.Push(n)
	if !pushed {
		return o.atCommand(api.ErrFull)
	}
	return lists.Fault{}
}

// pop takes levels away.
func (o *order) pop() lists.Fault {
	n, f := o.count()
	if f.E != api.OK {
		return f
	}
	popped := o.st.Pop(n)
	if !popped {
		return o.atCommand(api.ErrPop)
	}
	return lists.Fault{}
}

// count reads how many levels are meant: 1 if nothing is said.
func (o *order) count() (int, lists.Fault) {
	if len(o.inside) > 2 {
		return 0, o.atCommand(api.ErrForm)
	}
	if len(o.inside) < 2 {
		return 1, lists.Fault{}
	}
	it := o.item(1)
	n, ok := lists.Numeral(it.Word)
	if !ok {
		return 0, lists.Fault{E: api.ErrForm, Pos: it.Pos}
	}
	return n, lists.Fault{}
}
