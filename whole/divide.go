package whole

// Sign is below 0, 0 or above 0, as a number is.
func Sign(a Number) int { return compare64(a.value, 0) }

// DivideUp is the quotient of a number by one above 0, rounded up; of any other divisor 0.
func DivideUp(a Number, b Number) Number {
	if b.value <= 0 {
		return Number{}
	}
	below := a.value < 0
	if isNear(a) && isNear(b) {
		quotient := a.value / b.value
		if !below && a.value%b.value != 0 {
			quotient++
		}
		return of64(quotient)
	}
	limbs, rest := divideLimbs(limbsOf(a), limbsOf(b))
	quotient := made(below, limbs)
	if below || len(rest) == 0 {
		// Of a number below 0 the digits ahead of the point alone are rounded up already.
		return quotient
	}
	return Add(quotient, From(1))
}

// CommonDivisor is the greatest number that divides both, without a sign; of 0 and a number that number.
func CommonDivisor(a Number, b Number) Number {
	if isNear(a) && isNear(b) {
		return Number{value: commonDivisor64(a.value, b.value)}
	}
	divided := limbsOf(a)
	by := limbsOf(b)
	for len(by) > 0 {
		_, rest := divideLimbs(divided, by)
		divided = by
		by = rest
	}
	return made(false, divided)
}

// commonDivisor64 is CommonDivisor of two of 64 bits, both nearer to 0 than near.
func commonDivisor64(a int64, b int64) int64 {
	for b != 0 {
		rest := a % b
		a = b
		b = rest
	}
	if a < 0 {
		return -a
	}
	return a
}

// divideLimbs tells the quotient of limbs and what is left, which has no noughts behind. By nothing: no quotient.
func divideLimbs(a []int64, b []int64) ([]int64, []int64) {
	if len(b) == 0 || compareLimbs(a, b) < 0 {
		return nil, a
	}
	if len(b) == 1 {
		return divideByLimb(a, b[0])
	}
	// With a divisor whose last limb is half the base or more, a guess from the last limbs is at most two too great.
	scale := base / (b[len(b)-1] + 1)
	left := timesLimb(a, scale)
	by := timesLimb(b, scale)
	by = by[:trimmed(by)]
	quotient := make([]int64, len(a)-len(b)+1)
	for i := len(quotient) - 1; i >= 0; i-- {
		quotient[i] = takeOften(left, by, i)
	}
	rest, _ := divideByLimb(left, scale)
	return quotient, rest[:trimmed(rest)]
}

// timesLimb multiplies limbs by a limb; the product has one limb more.
func timesLimb(a []int64, n int64) []int64 {
	var product []int64
	var carry int64
	for _, limb := range a {
		carry += limb * n
		product = append(product, carry%base)
		carry /= base
	}
	return append(product, carry)
}

// divideByLimb is divideLimbs by a limb that is not 0.
func divideByLimb(a []int64, n int64) ([]int64, []int64) {
	if n == 0 {
		return nil, a
	}
	quotient := make([]int64, len(a))
	var rest int64
	for i := len(a) - 1; i >= 0; i-- {
		rest = rest*base + a[i]
		quotient[i] = rest / n
		rest %= n
	}
	// The rest of limbs that are all divided is one limb.
	one := []int64{rest}
	return quotient, one[:trimmed(one)]
}

// takeOften takes b away from a's limbs from a place on, as often as it goes, and tells how often: less than the base.
func takeOften(a []int64, b []int64, place int) int64 {
	last := len(b) - 1
	if last < 0 || b[last] == 0 {
		return 0
	}
	often := (limbAt(a, place+last+1)*base + limbAt(a, place+last)) / b[last]
	if often >= base {
		often = base - 1
	}
	short := takeTimes(a, b, place, often)
	for short && often > 0 {
		often--
		over := takeTimes(a, b, place, -1)
		short = !over
	}
	return often
}

// takeTimes takes so many times b away from a's limbs from a place on, one more than b has, and tells whether something is to be carried on behind these: so whether they fell below 0, or (taken away less than no times) came back from below 0.
func takeTimes(a []int64, b []int64, place int, times int64) bool {
	var carry int64
	for i := 0; i <= len(b) && place+i < len(a) && place+i >= 0; i++ {
		carry += a[place+i] - times*limbAt(b, i)
		limb := carry % base
		carry /= base
		if limb < 0 {
			limb += base
			carry--
		}
		a[place+i] = limb
	}
	return carry != 0
}
