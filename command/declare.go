package command

import (
	"reason/api"
	"reason/lists"
	"reason/stack"
)

// declare takes a symbol in (P4).
func (o *order) declare() lists.Fault {
	f := o.declareForm()
	if f.E != api.OK {
		return f
	}
	name := o.item(1)
	if !mayName(name.Word) {
		return lists.Fault{E: api.ErrName, Pos: name.Pos}
	}
	if o.st.Find(name.Word) >= 0 {
		return lists.Fault{E: api.ErrAgain, Pos: name.Pos}
	}
	takes, f := o.argumentSorts()
	if f.E != api.OK {
		return f
	}
	last := o.item(3)
	sort := stack.Sort(last.Word)
	if sort == 0 {
		return lists.Fault{E: api.ErrSort, Pos: last.Pos}
	}
	declared := o.st.Declare(stack.Symbol{Name: name.Word, Takes: takes, Sort: sort})
	if !declared {
		return o.atCommand(api.ErrFull)
	}
	return lists.Fault{}
}

// declareForm faults what is no word, a list of words and a word, the first from the left.
func (o *order) declareForm() lists.Fault {
	if len(o.inside) != 4 {
		return o.atCommand(api.ErrForm)
	}
	name := o.item(1)
	if name.IsList() {
		return lists.Fault{E: api.ErrForm, Pos: name.Pos}
	}
	sorts := o.item(2)
	if !sorts.IsList() {
		return lists.Fault{E: api.ErrForm, Pos: sorts.Pos}
	}
	for _, at := range o.sortPlaces() {
		it := lists.At(o.items, at)
		if it.IsList() {
			return lists.Fault{E: api.ErrForm, Pos: it.Pos}
		}
	}
	last := o.item(3)
	if last.IsList() {
		return lists.Fault{E: api.ErrForm, Pos: last.Pos}
	}
	return lists.Fault{}
}

// sortPlaces are the places of the items of SORTS.
func (o *order) sortPlaces() []int {
	if len(o.inside) < 3 {
		return nil
	}
	return lists.Inside(o.items, o.inside[2])
}

// argumentSorts reads the sorts that the symbol takes.
func (o *order) argumentSorts() ([]int, lists.Fault) {
	places := o.sortPlaces()
	if len(places) > api.MaxArity {
		return nil, lists.Fault{E: api.ErrSort, Pos: o.item(2).Pos}
	}
	var takes []int
	for _, at := range places {
		it := lists.At(o.items, at)
		sort := stack.Sort(it.Word)
		if sort != api.Int && sort != api.U {
			return nil, lists.Fault{E: api.ErrSort, Pos: it.Pos}
		}
		takes = append(takes, sort)
	}
	return takes, lists.Fault{}
}

// mayName tells whether a symbol may have that name.
func mayName(word string) bool {
	if len(word) == 0 || len(word) > api.MaxName {
		return false
	}
	if word == "true" || word == "false" {
		return false
	}
	if stack.Sort(word) != 0 {
		return false
	}
	if stack.Operator(word) != 0 {
		return false
	}
	return lists.IsLetter(word[0])
}
