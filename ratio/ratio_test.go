package ratio

import (
	"math/big"
	"testing"
)

func TestLowest(t *testing.T) {
	for given, want := range map[[2]int][2]int{
		{6, 4}: {3, 2}, {-6, 4}: {-3, 2}, {4, 6}: {2, 3}, {-4, 6}: {-2, 3}, {0, 1}: {0, 1}, {0, 7}: {0, 1}, {7, 1}: {7, 1}, {-7, 1}: {-7, 1},
		{7, 7}: {1, 1}, {-7, 7}: {-1, 1}, {1000000, 999999}: {1000000, 999999}, {-1000000, 1000000}: {-1, 1}, {-3, 2}: {-3, 2}, {-2, 3}: {-2, 3},
	} {
		if n, d := Lowest(given[0], given[1]); [2]int{n, d} != want {
			t.Errorf("Lowest(%d, %d) = %d, %d", given[0], given[1], n, d)
		}
	}
}

// some are numbers at the bounds and between them.
func some() []Ratio {
	var out []Ratio
	for _, n := range []int{0, 1, 2, 3, 6, 7, 101, 999, 1000, 1001, 500000, 999983, 999999, 1000000} {
		for _, d := range []int{1, 2, 3, 7, 101, 1000, 1001, 9901, 999979, 999999, 1000000} {
			low, below := Lowest(n, d)
			out = append(out, Ratio{low, below}, Ratio{-low, below})
		}
	}
	return out
}

// The library's numbers tell what must come of each two.
func TestTwoNumbers(t *testing.T) {
	most := big.NewInt(1000000)
	agrees := func(what string, a, b, got Ratio, fits bool, want *big.Rat) {
		t.Helper()
		wantFits := want.Num().CmpAbs(most) <= 0 && want.Denom().Cmp(most) <= 0
		if fits != wantFits || fits && (int64(got.N) != want.Num().Int64() || int64(got.D) != want.Denom().Int64()) || !fits && got != (Ratio{}) {
			t.Errorf("%v %s %v = %v, %t; want %v", a, what, b, got, fits, want)
		}
	}
	for _, a := range some() {
		for _, b := range some() {
			x, y := big.NewRat(int64(a.N), int64(a.D)), big.NewRat(int64(b.N), int64(b.D))
			got, fits := a.Plus(b)
			agrees("plus", a, b, got, fits, new(big.Rat).Add(x, y))
			got, fits = a.Minus(b)
			agrees("minus", a, b, got, fits, new(big.Rat).Sub(x, y))
			got, fits = a.Times(b)
			agrees("times", a, b, got, fits, new(big.Rat).Mul(x, y))
			if b.N != 0 {
				got, fits = a.By(b)
				agrees("by", a, b, got, fits, new(big.Rat).Quo(x, y))
			}
			if a.Below(b) != (x.Cmp(y) < 0) || (a == b) != (x.Cmp(y) == 0) {
				t.Errorf("%v below %v: %t, equal: %t", a, b, a.Below(b), a == b)
			}
		}
	}
}
