// Package ratio: numbers as one whole number divided by another.
package ratio

import "looptext/api"

// Ratio is N divided by D, in lowest terms and not beyond MaxNumber: D is
// above 0.
type Ratio struct{ N, D int }

// Lowest is n divided by d in lowest terms. d must be above 0.
func Lowest(n, d int) (int, int) {
	low, below := lowest(int64(n), int64(d))
	return int(low), int(below)
}

// The four ways to make one number of two. Each is exact; false if its N or D
// is beyond MaxNumber.

func (a Ratio) Plus(b Ratio) (Ratio, bool) {
	return fit(wide(a.N, b.D)+wide(b.N, a.D), wide(a.D, b.D))
}

func (a Ratio) Minus(b Ratio) (Ratio, bool) { return a.Plus(Ratio{-b.N, b.D}) }

func (a Ratio) Times(b Ratio) (Ratio, bool) { return fit(wide(a.N, b.N), wide(a.D, b.D)) }

// By is a divided by b, which must not be 0.
func (a Ratio) By(b Ratio) (Ratio, bool) {
	n, d := wide(a.N, b.D), wide(a.D, b.N)
	if d < 0 {
		n, d = -n, -d
	}
	return fit(n, d)
}

// Below holds if a is less than b.
func (a Ratio) Below(b Ratio) bool { return wide(a.N, b.D) < wide(b.N, a.D) }

// wide is a product. It may be beyond an int, where that has 32 bits.
func wide(a, b int) int64 { return int64(a) * int64(b) }

// fit looks at the bounds in lowest terms only, so that what is great on the
// way there does no harm.
func fit(n, d int64) (Ratio, bool) {
	n, d = lowest(n, d)
	if n < -api.MaxNumber || n > api.MaxNumber || d > api.MaxNumber {
		return Ratio{}, false
	}
	return Ratio{int(n), int(d)}, true
}

func lowest(n, d int64) (int64, int64) {
	common := divisor(n, d)
	return n / common, d / common
}

// divisor is the greatest common one, and above 0 whatever the sign of n, so
// that dividing by it leaves the signs.
func divisor(n, d int64) int64 {
	for d != 0 {
		n, d = d, n%d
	}
	return max(n, -n)
}
