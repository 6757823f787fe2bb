package whole_test

import (
	"math"
	"math/big"
	"math/rand"
	"strings"
	"testing"

	"reason/whole"
)

// TestCanonical: a text is canonical just if it is what its number is written as.
func TestCanonical(t *testing.T) {
	good := []string{"0", "1", "9", "10", "100", "-1", "-9", "-10", "999999999", "1000000000", "-1000000000", "1" + strings.Repeat("0", 100)}
	for _, text := range good {
		n, ok := whole.Parse(text)
		if !ok || !whole.Canonical(text) || n.Text() != text {
			t.Errorf("%q: %v %q", text, ok, n.Text())
		}
	}
	bad := []string{"", "-", "00", "01", "-0", "-01", "--1", "+1", " 1", "1 ", "1\n", "1-", "1a", "a", "0x1", "1.0", "1e3", "1_0", "-00", "0-", "\x001", "/", ":", "1/", "1:", "٣", "-" + strings.Repeat("0", 20), strings.Repeat("9", 30) + "x"}
	for _, text := range bad {
		n, ok := whole.Parse(text)
		if ok || whole.Canonical(text) || n.Text() != "0" {
			t.Errorf("%q: %v %q", text, ok, n.Text())
		}
	}
}

func TestFrom(t *testing.T) {
	for _, n := range []int{0, 1, -1, 7, 99999999, 999999999, 1000000000, -1000000000, 1000000001, math.MaxInt32, math.MinInt32, math.MaxInt, math.MinInt} {
		if got, want := whole.From(n).Text(), big.NewInt(int64(n)).String(); got != want {
			t.Errorf("got %s, want %s", got, want)
		}
	}
}

// samples are numbers at the edges of limbs, and some from between, of many lengths and both signs.
func samples() []*big.Int {
	list := []*big.Int{big.NewInt(0)}
	r := rand.New(rand.NewSource(1))
	for digits := 0; digits < 60; digits++ {
		round := new(big.Int).Exp(big.NewInt(10), big.NewInt(int64(digits)), nil)
		some := new(big.Int).Rand(r, round)
		for _, n := range []*big.Int{round, new(big.Int).Sub(round, big.NewInt(1)), some} {
			list = append(list, n, new(big.Int).Neg(n))
		}
	}
	return list
}

// parse is the number of the program that has the same text.
func parse(t *testing.T, n *big.Int) whole.Number {
	t.Helper()
	got, ok := whole.Parse(n.String())
	if !ok || got.Text() != n.String() {
		t.Fatalf("%s was read as %s, %v", n, got.Text(), ok)
	}
	return got
}

// sign is -1, 0 or 1.
func sign(n int) int { return big.NewInt(int64(n)).Sign() }

// TestArithmetic compares each operation with that of math/big, and looks that the operands are left as they were.
func TestArithmetic(t *testing.T) {
	list := samples()
	for _, x := range list {
		a := parse(t, x)
		if got, want := whole.Negate(a).Text(), new(big.Int).Neg(x).String(); got != want {
			t.Errorf("the opposite of %s: %s", x, got)
		}
		for _, y := range list {
			b := parse(t, y)
			if got, want := whole.Add(a, b).Text(), new(big.Int).Add(x, y).String(); got != want {
				t.Fatalf("%s + %s: got %s, want %s", x, y, got, want)
			}
			if got, want := whole.Multiply(a, b).Text(), new(big.Int).Mul(x, y).String(); got != want {
				t.Fatalf("%s * %s: got %s, want %s", x, y, got, want)
			}
			if got, want := sign(whole.Compare(a, b)), x.Cmp(y); got != want {
				t.Fatalf("%s and %s: got %d, want %d", x, y, got, want)
			}
			checkDivision(t, x, y, a, b)
			if a.Text() != x.String() || b.Text() != y.String() {
				t.Fatalf("%s and %s became %s and %s", x, y, a.Text(), b.Text())
			}
		}
	}
}

// checkDivision compares division and common divisors with those of math/big.
func checkDivision(t *testing.T, x, y *big.Int, a, b whole.Number) {
	t.Helper()
	if got, want := whole.CommonDivisor(a, b).Text(), new(big.Int).GCD(nil, nil, new(big.Int).Abs(x), new(big.Int).Abs(y)).String(); got != want {
		t.Fatalf("the greatest divisor of %s and %s: got %s, want %s", x, y, got, want)
	}
	want := new(big.Int)
	if y.Sign() > 0 {
		// Division of math/big is rounded down: of the opposite, and turned round, it is rounded up.
		want.Neg(new(big.Int).Div(new(big.Int).Neg(x), y))
	}
	if got := whole.DivideUp(a, b).Text(); got != want.String() {
		t.Fatalf("%s by %s: got %s, want %s", x, y, got, want)
	}
}

// TestDivision: numbers that share a divisor, and those at which a guess of a limb is too great.
func TestDivision(t *testing.T) {
	r := rand.New(rand.NewSource(2))
	limbs := []int64{0, 1, 2, 499999999, 500000000, 500000001, 999999998, 999999999}
	pick := func() *big.Int {
		n := new(big.Int)
		for i := r.Intn(6); i >= 0; i-- {
			limb := limbs[r.Intn(len(limbs))]
			if r.Intn(3) == 0 {
				limb = r.Int63n(1000000000)
			}
			n.Mul(n, big.NewInt(1000000000)).Add(n, big.NewInt(limb))
		}
		if r.Intn(2) == 0 {
			n.Neg(n)
		}
		return n
	}
	for i := 0; i < 100000; i++ {
		x, y := pick(), pick()
		if i%4 == 0 {
			z := pick()
			x.Mul(x, z)
			y.Mul(y, z)
		}
		if i%4 == 1 {
			x.Mul(x, y).Add(x, big.NewInt(int64(r.Intn(3)-1)))
		}
		checkDivision(t, x, y, parse(t, x), parse(t, y))
	}
}

// TestSign: below 0, 0 and above 0.
func TestSign(t *testing.T) {
	for _, x := range samples() {
		if got, want := sign(whole.Sign(parse(t, x))), x.Sign(); got != want {
			t.Errorf("%s: got %d, want %d", x, got, want)
		}
	}
}

// TestLong: a great number costs about as much as it has digits.
func TestLong(t *testing.T) {
	text := "-" + strings.Repeat("9", 1000000)
	n, ok := whole.Parse(text)
	if !ok || n.Text() != text {
		t.Error("a million digits are not read and written again")
	}
	less := whole.Add(n, whole.From(-1))
	if got := less.Text(); got != "-1"+strings.Repeat("0", 1000000) {
		t.Error("one less than a million nines below 0")
	}
	if got := whole.Multiply(less, whole.From(-99999999)).Text(); got != "99999999"+strings.Repeat("0", 1000000) {
		t.Error("many times a number of a million digits")
	}
	if got := whole.Multiply(whole.From(10), less).Text(); got != "-1"+strings.Repeat("0", 1000001) {
		t.Error("ten times a number of a million digits")
	}
}
