package congruence_test

import (
	"math/rand"
	"testing"

	"reason/api"
	"reason/congruence"
	"reason/stack"
)

// terms is a stack of elements, of functions of them and of truth values of them, at random.
func terms(r *rand.Rand) *stack.Stack {
	st := &stack.Stack{}
	for i := 0; i < 4; i++ {
		st.Declare(stack.Symbol{Name: string(rune('a' + i)), Sort: api.U})
		st.Join(stack.Term{Op: stack.Apply, Sym: i, Sort: api.U})
	}
	st.Declare(stack.Symbol{Name: "f", Takes: []int{api.U}, Sort: api.U})
	st.Declare(stack.Symbol{Name: "g", Takes: []int{api.U, api.U}, Sort: api.U})
	st.Declare(stack.Symbol{Name: "m", Takes: []int{api.U}, Sort: api.Bool})
	st.Join(stack.Term{Op: stack.True, Sort: api.Bool})
	for i := 0; i < 16; i++ {
		var made []int
		for number, t := range st.Terms {
			if t.Sort == api.U {
				made = append(made, number)
			}
		}
		x, y := made[r.Intn(len(made))], made[r.Intn(len(made))]
		switch r.Intn(4) {
		case 0:
			st.Join(stack.Term{Op: stack.Apply, Sym: 6, Args: []int{x}, Sort: api.Bool})
		case 1:
			st.Join(stack.Term{Op: stack.Apply, Sym: 5, Args: []int{x, y}, Sort: api.U})
		default:
			st.Join(stack.Term{Op: stack.Apply, Sym: 4, Args: []int{x}, Sort: api.U})
		}
	}
	return st
}

// slowly is the least congruence of equalities, word for word.
func slowly(st *stack.Stack, pairs [][2]int) [][]bool {
	n := len(st.Terms)
	same := make([][]bool, n)
	for i := range same {
		same[i] = make([]bool, n)
		same[i][i] = true
	}
	for _, p := range pairs {
		same[p[0]][p[1]] = true
	}
	for grown := true; grown; {
		grown = false
		for i := 0; i < n; i++ {
			for j := 0; j < n; j++ {
				if same[i][j] {
					continue
				}
				so := same[j][i]
				for k := 0; k < n; k++ {
					so = so || same[i][k] && same[k][j]
				}
				s, t := st.Terms[i], st.Terms[j]
				if s.Op == stack.Apply && t.Op == stack.Apply && s.Sym == t.Sym {
					all := true
					for k := range s.Args {
						all = all && same[s.Args[k]][t.Args[k]]
					}
					so = so || all
				}
				if so {
					same[i][j], grown = true, true
				}
			}
		}
	}
	return same
}

// TestCongruence: what is congruent, and that what Why tells is enough and, but for what was said twice, each once.
func TestCongruence(t *testing.T) {
	r := rand.New(rand.NewSource(2))
	for round := 0; round < 300; round++ {
		st := terms(r)
		var pairs [][2]int
		c := congruence.New(st)
		for n := r.Intn(8); n > 0; n-- {
			a, b := r.Intn(len(st.Terms)), r.Intn(len(st.Terms))
			if st.Terms[a].Sort != api.U || st.Terms[b].Sort != api.U {
				continue
			}
			c.Merge(a, b, len(pairs))
			pairs = append(pairs, [2]int{a, b})
		}
		c.Close()
		want := slowly(st, pairs)
		for a := range st.Terms {
			for b := range st.Terms {
				if c.Same(a, b) != want[a][b] || (c.Class(a) == c.Class(b)) != want[a][b] {
					t.Fatalf("%v: %d and %d: got %v", pairs, a, b, c.Same(a, b))
				}
				why := c.Why(a, b)
				if !want[a][b] || a == b {
					if len(why) != 0 {
						t.Fatalf("%v: why %d and %d: %v", pairs, a, b, why)
					}
					continue
				}
				var some [][2]int
				told := map[int]bool{}
				for _, mark := range why {
					if told[mark] {
						t.Fatalf("%v: why %d and %d: %v", pairs, a, b, why)
					}
					told[mark] = true
					some = append(some, pairs[mark])
				}
				if round%10 == 0 && !slowly(st, some)[a][b] {
					t.Fatalf("%v: why %d and %d: %v is not enough", pairs, a, b, why)
				}
			}
		}
	}
}

// TestNone: terms that are not there.
func TestNone(t *testing.T) {
	st := terms(rand.New(rand.NewSource(3)))
	c := congruence.New(st)
	c.Merge(-1, 0, 0)
	c.Merge(0, len(st.Terms), 0)
	if c.Class(-1) != -1 || c.Class(len(st.Terms)) != -1 || c.Class(0) != 0 || c.Same(0, 1) {
		t.Error("a class of no term")
	}
	if why := c.Why(-1, 0); len(why) != 0 {
		t.Errorf("why: %v", why)
	}
}
