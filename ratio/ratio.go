// Package ratio: numbers as one whole number divided by another.
package ratio

// Lowest is n divided by d in lowest terms. d must be above 0.
func Lowest(n, d int) (int, int) {
	common := divisor(n, d)
	return n / common, d / common
}

// divisor is the greatest common one, and above 0 whatever the sign of n, so
// that dividing by it leaves the signs.
func divisor(n, d int) int {
	for d != 0 {
		n, d = d, n%d
	}
	return max(n, -n)
}
