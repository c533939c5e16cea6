package tests

import (
	"math/big"

	"loop.example/g01262/impl"
)

// The functions of this file say again what chapter 6 says, with numbers of any length.

// weightOf returns how many numbers of a form are not 0.
func weightOf(f impl.Form) int64 {
	count := int64(0)
	for _, number := range f {
		if number != 0 {
			count++
		}
	}
	return count
}

func expectCost(x impl.Scheme) []int64 {
	cost := []int64{0, 0, 0, 0}
	for _, q := range x.Products {
		cost[0]++
		cost[1] += weightOf(q.A) - 1
		cost[2] += weightOf(q.B) - 1
	}
	for place := range x.Rows * x.Cols {
		having := int64(0)
		for _, q := range x.Products {
			if q.C[place] != 0 {
				having++
			}
		}
		if having > 0 {
			cost[3] += having - 1
		}
	}
	return cost
}

func bigOf(number int64) *big.Int { return big.NewInt(number) }

// bigPower returns a power of numbers of any length.
func bigPower(base, exponent int64) *big.Int {
	return new(big.Int).Exp(bigOf(base), bigOf(exponent), nil)
}

func plus(a, b *big.Int) *big.Int { return new(big.Int).Add(a, b) }

func by(a, b *big.Int) *big.Int { return new(big.Int).Mul(a, b) }

func isTooGreat(number *big.Int) bool { return number.Cmp(bigOf(impl.MaxCost)) > 0 }

// expectPlain returns the plain cost of a size: multiplications, and sums of as many numbers as it.
func expectPlain(s *big.Int) *big.Int {
	squared := by(s, s)
	sums := by(squared, plus(s, bigOf(-1)))
	return plus(by(squared, s), sums)
}

// expectLevels returns M and S for each number of levels from 0 on.
func expectLevels(x impl.Scheme, levels int64, base *big.Int) (m, s []*big.Int) {
	cost := expectCost(x)
	products, sums := bigOf(cost[0]), bigOf(cost[1]+cost[2]+cost[3])
	cube := by(base, by(base, base))
	m, s = []*big.Int{cube}, []*big.Int{plus(cube, by(bigOf(-1), by(base, base)))}
	for l := int64(1); l <= levels; l++ {
		block := by(bigPower(x.Rows, l-1), base)
		m = append(m, by(m[l-1], products))
		s = append(s, plus(by(s[l-1], products), by(sums, by(block, block))))
	}
	return m, s
}

// expectMixed returns the mixed cost, and whether it or a number on the way is too great.
func expectMixed(x impl.Scheme, levels int64, base *big.Int) (*big.Int, bool) {
	m, s := expectLevels(x, levels, base)
	mixed := plus(m[levels], s[levels])
	great := isTooGreat(mixed)
	for l := range m {
		great = great || isTooGreat(m[l]) || isTooGreat(s[l])
	}
	return mixed, great
}

// expectBest returns the least number of levels of least cost, and its code.
func expectBest(x impl.Scheme, levels, base int64) (int64, int64) {
	best, least := int64(0), (*big.Int)(nil)
	for l := range levels + 1 {
		mixed, great := expectMixed(x, l, by(bigPower(x.Rows, levels-l), bigOf(base)))
		if great {
			return 0, impl.ErrLimit
		}
		if least == nil || mixed.Cmp(least) < 0 {
			best, least = l, mixed
		}
	}
	return best, impl.ErrNone
}

// isGain reports whether so many levels cost less than the plain product, and whether a number is too
// great to tell it.
func isGain(x impl.Scheme, levels, base int64) (gain, great bool) {
	mixed, great := expectMixed(x, levels, bigOf(base))
	plain := expectPlain(by(bigPower(x.Rows, levels), bigOf(base)))
	return mixed.Cmp(plain) < 0, great
}

// expectGain returns the first number of levels that gain something, and its code.
func expectGain(x impl.Scheme, base int64) (int64, int64) {
	for l := int64(1); l <= impl.MaxLevels; l++ {
		gain, great := isGain(x, l, base)
		if great {
			return 0, impl.ErrLimit
		}
		if gain {
			return l, impl.ErrNone
		}
	}
	return 0, impl.ErrNotFound
}

// expectGreater returns the size made greater, and its code.
func expectGreater(n, s int64) (int64, int64) {
	for _, size := range powersOf(n) {
		if size >= s {
			return size, impl.ErrNone
		}
	}
	return 0, impl.ErrNotFound
}

// powersOf returns the sizes of 0 to MaxLevels levels.
func powersOf(n int64) []int64 {
	return map[int64][]int64{
		2: {1, 2, 4, 8, 16, 32, 64, 128, 256},
		3: {1, 3, 9, 27, 81, 243, 729, 2187, 6561},
	}[n]
}
