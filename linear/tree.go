package linear

import (
	"reason/whole"
	"strconv"
)

// The kinds of nodes.
const (
	isEnd = iota
	isSplit
	isCut
)

// node is a piece of a tree: a split of a term at a bound; a cut: each form so many times, rounded; or an end, at which each form so many times comes to a number above 0.
type node struct {
	kind  int
	term  int
	bound whole.Number
	times []whole.Number // by form: those given, rounded where that says more, and behind them those of the splits and cuts that are at hand
}

// Used tells of each sum that was given whether the tree needs it.
func (o Outcome) Used() []bool {
	used := make([]bool, len(o.cut))
	for _, n := range o.nodes {
		markTaken(used, n.times)
	}
	return used
}

// Tree tells the tree, over the sums that it needs: first each of these that is rounded, then what goes on from there.
func (o Outcome) Tree() string {
	used := o.Used()
	var text []byte
	cuts := 0
	for i, cut := range o.cut {
		if cut && used[i] {
			text = append(text, roundText(used, i, cuts)...)
			cuts++
		}
	}
	for i, n := range o.nodes {
		if i > 0 {
			text = append(text, ' ')
		}
		text = append(text, o.nodeText(used, n)...)
	}
	return string(text)
}

// nodeText tells a node.
func (o Outcome) nodeText(used []bool, n node) string {
	switch n.kind {
	case isSplit:
		return "s " + strconv.Itoa(n.term) + " " + n.bound.Text()
	case isCut:
		return "c" + o.timesText(used, n.times)
	}
	return "f" + o.timesText(used, n.times)
}

// roundText tells that one sum is rounded, behind so many others.
func roundText(used []bool, one int, others int) string {
	text := "c"
	for i := range used {
		if i == one {
			text += " 1"
		} else if used[i] {
			text += " 0"
		}
	}
	for i := 0; i < others; i++ {
		text += " 0"
	}
	return text + "; "
}

// timesText tells how often each sum is taken: of those that were rounded, not as they were given.
func (o Outcome) timesText(used []bool, times []whole.Number) string {
	var given []byte
	var rounded []byte
	var behind []byte
	for i, n := range times {
		switch {
		case i >= len(used):
			behind = append(behind, " "+n.Text()...)
		case used[i] && o.cut[i]:
			given = append(given, " 0"...)
			rounded = append(rounded, " "+n.Text()...)
		case used[i]:
			given = append(given, " "+n.Text()...)
		}
	}
	given = append(given, rounded...)
	given = append(given, behind...)
	return string(given) + ";"
}
