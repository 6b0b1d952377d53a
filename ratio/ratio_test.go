package ratio

import "testing"

func TestLowest(t *testing.T) {
	for given, want := range map[[2]int][2]int{
		{6, 4}: {3, 2}, {-6, 4}: {-3, 2}, {4, 6}: {2, 3}, {-4, 6}: {-2, 3}, {0, 1}: {0, 1}, {0, 7}: {0, 1}, {7, 1}: {7, 1}, {-7, 1}: {-7, 1},
		{7, 7}: {1, 1}, {-7, 7}: {-1, 1}, {1000000, 999999}: {1000000, 999999}, {-1000000, 1000000}: {-1, 1}, {-3, 2}: {-3, 2}, {-2, 3}: {-2, 3},
	} {
		if n, d := Lowest(given[0], given[1]); [2]int{n, d} != want {
			t.Errorf("Lowest(%d, %d) = %d, %d", given[0], given[1], n, d)
		}
	}
}
