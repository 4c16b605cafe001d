package impl

const MaxAmount = 1000000000000000

// halfBits splits a word of 64 bits into two halves whose products still fit a word.
const halfBits = 32

// wide holds the product of two amounts, which one word has no room for: high counts 2 to the 64.
type wide struct {
	high uint64
	low  uint64
}

func AmountOk(x int) bool { return -MaxAmount <= x && x <= MaxAmount }

func AddIn(a int, b int) (int, bool) {
	if !AmountOk(a) || !AmountOk(b) {
		return 0, false
	}
	return amountOnly(a + b)
}

func SubIn(a int, b int) (int, bool) {
	if !AmountOk(a) || !AmountOk(b) {
		return 0, false
	}
	return amountOnly(a - b)
}

func MulIn(a int, b int) (int, bool) {
	if !AmountOk(a) || !AmountOk(b) {
		return 0, false
	}
	size, ok := wideProduct(sizeOf(a), sizeOf(b)).amount()
	if (a < 0) != (b < 0) {
		return -size, ok
	}
	return size, ok
}

func DivFloor(a int, b int) (int, bool) {
	if !AmountOk(a) || !AmountOk(b) || b == 0 {
		return 0, false
	}
	q, r := a/b, a%b
	// Go's division goes towards 0, which is above the floor where the exact quotient is below 0.
	if r != 0 && (a < 0) != (b < 0) {
		q--
	}
	return q, true
}

func MulDiv(a int, b int, c int) (int, int, bool) {
	if !AmountOk(a) || !AmountOk(b) || !AmountOk(c) || a < 0 || b < 0 || c < 1 {
		return 0, 0, false
	}
	quotient, rest := wideProduct(uint64(a), uint64(b)).divide(uint64(c))
	q, ok := quotient.amount()
	if !ok {
		return 0, 0, false
	}
	return q, int(rest), true
}

func amountOnly(x int) (int, bool) {
	if !AmountOk(x) {
		return 0, false
	}
	return x, true
}

// sizeOf takes an amount, so that turning its sign cannot wrap.
func sizeOf(x int) uint64 {
	if x < 0 {
		return uint64(-x)
	}
	return uint64(x)
}

// wideProduct carries one cross product at a time, because both at once could pass the word.
func wideProduct(a uint64, b uint64) wide {
	aHigh, aLow := a>>halfBits, uint64(uint32(a))
	bHigh, bLow := b>>halfBits, uint64(uint32(b))
	lowest := aLow * bLow
	cross := aHigh*bLow + lowest>>halfBits
	other := aLow*bHigh + uint64(uint32(cross))
	return wide{
		high: aHigh*bHigh + cross>>halfBits + other>>halfBits,
		low:  other<<halfBits | uint64(uint32(lowest)),
	}
}

// divide wants a divisor that is an amount from 1 on: the rest stays below it, so that doubling the rest cannot wrap.
func (w wide) divide(divisor uint64) (wide, uint64) {
	quotient := wide{high: w.high / divisor}
	rest := w.high % divisor
	for place := range 64 {
		rest = rest<<1 | w.low>>(63-place)&1
		quotient.low <<= 1
		if rest >= divisor {
			rest -= divisor
			quotient.low |= 1
		}
	}
	return quotient, rest
}

func (w wide) amount() (int, bool) {
	if w.high != 0 || w.low > MaxAmount {
		return 0, false
	}
	return int(w.low), true
}
