// Package linear tells whether whole numbers can be found for terms so that sums are at most 0, or with a TREE (P9, of a line A) that there are none.
package linear

import (
	"reason/sums"
	"reason/whole"
)

// deepest is how many splits may lie within each other. Of three unknowns that have at most 16 values each, there are never more than 45: each takes a value away at the least.
const deepest = 64

// Outcome is what was found out: values of the columns, a tree, or neither.
type Outcome struct {
	Found   bool
	Closed  bool
	TooDeep bool           // too many splits would lie within each other
	Values  []whole.Number // by column
	Splits  int            // how many had to be made
	cut     []bool         // by sum that was given: it was rounded
	nodes   []node         // a tree, in the order in which it is told
}

// solving is an outcome on its way.
type solving struct {
	columns []int
	most    int
	out     Outcome
}

// Solve looks for values of the columns, which are all terms that are in the sums. Where values are fractions, it splits the first column that has one; with more splits than may be, it ends with one more. With a number of splits below 0, there may be as many as it takes.
func Solve(columns []int, list []sums.Sum, most int) Outcome {
	p := solving{columns: columns, most: most}
	var rounded []sums.Sum
	for _, s := range list {
		r := sums.Rounded(s)
		cut := isNearer(s, r)
		if !cut {
			r = s
		}
		rounded = append(rounded, r)
		p.out.cut = append(p.out.cut, cut)
	}
	t := newTableau(columns, rounded)
	closed := p.close(&t, 0)
	p.out.Closed = closed
	if !p.out.Found {
		p.out.Values = nil
	}
	if !p.out.Closed {
		p.out.nodes = nil
	}
	return p.out
}

// isNearer tells whether a sum says more when it is rounded: if its number is not divided without rest.
func isNearer(s sums.Sum, rounded sums.Sum) bool {
	if len(s.Parts) == 0 || len(rounded.Parts) == 0 {
		return false
	}
	// How often the divisor goes into the parts is how often it would go into the number.
	first := whole.Multiply(s.Parts[0].Times, rounded.Number)
	second := whole.Multiply(rounded.Parts[0].Times, s.Number)
	return whole.Compare(first, second) != 0
}

// close tells whether there are no values for the sums of a tableau; the tree grows by why.
func (p *solving) close(t *tableau, depth int) bool {
	r := t.settle()
	if r >= 0 {
		p.out.nodes = append(p.out.nodes, node{times: t.multiples(r)})
		return true
	}
	unknown, bound := p.broken(t)
	if unknown < 0 {
		p.out.Found = true
		return false
	}
	p.out.Splits++
	p.out.TooDeep = depth >= deepest
	if p.out.TooDeep || p.most >= 0 && p.out.Splits > p.most {
		return false
	}
	p.out.nodes = append(p.out.nodes, node{split: true, term: p.columns[unknown], bound: bound})
	lower := t.with(unknown, whole.From(1), whole.Negate(bound))
	if !p.close(&lower, depth+1) {
		return false
	}
	above := whole.Add(bound, whole.From(1))
	upper := t.with(unknown, whole.From(-1), above)
	return p.close(&upper, depth+1)
}

// broken tells the first unknown whose value is not whole, and the whole number below it; -1, if there is none. The values are kept.
func (p *solving) broken(t *tableau) (int, whole.Number) {
	p.out.Values = make([]whole.Number, len(p.columns))
	first := -1
	bound := whole.Number{}
	for i, number := range t.told {
		if number >= len(p.columns) {
			continue
		}
		r := t.rows[i]
		up := whole.DivideUp(r.number, r.parts)
		p.out.Values[number] = up
		exact := whole.Compare(whole.Multiply(up, r.parts), r.number) == 0
		if !exact && (first < 0 || number < first) {
			first = number
			bound = whole.Add(up, whole.From(-1))
		}
	}
	return first, bound
}
