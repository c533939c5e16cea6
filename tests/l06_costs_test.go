package tests

import (
	"fmt"
	"testing"

	"loop.example/g01262/impl"
)

// The numbers of these examples were found by hand.
func TestCostsAsExamples(t *testing.T) {
	for _, p := range primes {
		for _, example := range []struct {
			name string
			x    impl.Scheme
			want []int64
		}{
			{"strassen", strassen(p), []int64{7, 5, 5, 8}},
			{"winograd", winograd(p), []int64{7, 7, 7, 10}},
			{"standard", expectStandard(p, 3, 3, 3), []int64{27, 0, 0, 18}},
			{"standard of the sizes 2, 3 and 1", expectStandard(p, 2, 3, 1), []int64{6, 0, 0, 4}},
			{"standard of the size 1", expectStandard(p, 1, 1, 1), []int64{1, 0, 0, 0}},
			{"no products", impl.Scheme{Prime: p, Rows: 3, Inner: 1, Cols: 2}, []int64{0, 0, 0, 0}},
			{"one product", makeScheme(p, 2, 2, 2, "0m00 1000 0010"), []int64{1, 0, 0, 0}},
			{"one full product", makeScheme(p, 3, 3, 3, "mmmmmmmmm 111111111 1m1m1m1m1"), []int64{1, 8, 8, 0}},
			{"a place of Z with one product and one with both", makeScheme(p, 2, 2, 2, "1100 1000 1000; 1000 1m10 100m"), []int64{2, 1, 2, 1}},
			{"different places of Z", makeScheme(p, 2, 2, 2, "1000 1000 1000; 1000 1000 0001"), []int64{2, 0, 0, 0}},
			{"30 full products", fullScheme(p, 3, impl.MaxProducts), []int64{30, 240, 240, 261}},
			{"30 full products of the size 2", fullScheme(p, 2, impl.MaxProducts), []int64{30, 90, 90, 116}},
		} {
			wantSame(t, "CostOf "+example.name, costs(t, example.x), example.want)
		}
	}
}

// TestCostsPlaceByPlace has schemes of all sizes, square ones and others, of all numbers of products.
func TestCostsPlaceByPlace(t *testing.T) {
	eachSchemeToMove(func(s *sequence, x impl.Scheme) {
		wantSame(t, fmt.Sprint("CostOf of ", x), costs(t, x), expectCost(x))
	})
	s := &sequence{}
	eachSize(func(p, n, m, k int64) {
		for products := range impl.MaxProducts + 1 {
			x := someScheme(s, p, n, m, k, products)
			wantSame(t, fmt.Sprint("CostOf of ", x), costs(t, x), expectCost(x))
		}
	})
	eachSquare(func(s *sequence, x impl.Scheme) {
		wantSame(t, fmt.Sprint("CostOf of ", x), costs(t, x), expectCost(x))
	})
}

func TestRepeatedCostsAsExamples(t *testing.T) {
	one := makeScheme(2, 2, 2, 2, "1100 1000 1000")
	for _, example := range []struct {
		x      impl.Scheme
		levels int64
		want   []int64
	}{
		{strassen(2), 0, []int64{1, 0}},
		{strassen(3), 1, []int64{7, 18}},
		{strassen(5), 2, []int64{49, 198}},
		{strassen(2), 3, []int64{343, 1674}},
		{winograd(3), 2, []int64{49, 264}},
		{fullScheme(2, 2, 0), 0, []int64{1, 0}},
		{fullScheme(2, 2, 0), 1, []int64{0, 0}},
		{fullScheme(2, 3, 0), 8, []int64{0, 0}},
		{one, 1, []int64{1, 1}},
		{one, 3, []int64{1, 1 + 4 + 16}},
		{fullScheme(3, 3, 30), 1, []int64{30, 741}},
		{fullScheme(3, 3, 30), 2, []int64{900, 741*30 + 741*9}},
		{fullScheme(3, 3, 30), 8, []int64{656100000000, 741 * ((656100000000 - 43046721) / (30 - 9))}},
	} {
		wantSame(t, fmt.Sprint("RepeatedCost of ", example.x, example.levels), repeated(t, example.x, example.levels), example.want)
	}
}

// TestRepeatedCostsLevelByLevel shows that no square scheme has costs that are too great.
func TestRepeatedCostsLevelByLevel(t *testing.T) {
	eachSquare(func(s *sequence, x impl.Scheme) {
		m, sums := expectLevels(x, impl.MaxLevels, bigOf(1))
		for levels := range int64(impl.MaxLevels + 1) {
			want := []int64{m[levels].Int64(), sums[levels].Int64()}
			wantSame(t, fmt.Sprint("RepeatedCost of ", x, levels), repeated(t, x, levels), want)
		}
	})
}

func TestPlainCosts(t *testing.T) {
	for size, want := range map[int64]int64{1: 1, 2: 12, 3: 45, 4: 112, 10: 1900, 1000: 1999000000, 50000: 249997500000000} {
		plain, code := impl.PlainCost(size)
		wantCode(t, "PlainCost", code, impl.ErrNone)
		wantSame(t, fmt.Sprint("PlainCost of ", size), plain, want)
	}
	for size := int64(1); size <= 50000; size++ {
		plain, code := impl.PlainCost(size)
		if code != impl.ErrNone || plain != expectPlain(bigOf(size)).Int64() {
			t.Fatalf("PlainCost of %d = %d, %d", size, plain, code)
		}
	}
}

// wantMixed tests a mixed cost, or that it is too great, and reports which of both.
func wantMixed(t *testing.T, x impl.Scheme, levels, base int64) bool {
	t.Helper()
	what := fmt.Sprint("MixedCost of ", x, levels, base)
	mixed, code := impl.MixedCost(x, levels, base)
	want, great := expectMixed(x, levels, bigOf(base))
	if great {
		wantError(t, what, mixed, code, impl.ErrLimit)
		return false
	}
	wantCode(t, what, code, impl.ErrNone)
	wantSame(t, what, mixed, want.Int64())
	return true
}

func TestMixedCostsLevelByLevel(t *testing.T) {
	told := map[bool]int{}
	eachSquare(func(s *sequence, x impl.Scheme) {
		for levels := range int64(impl.MaxLevels + 1) {
			for _, base := range append([]int64{1 + s.below(1000), 1 + s.below(1000)}, someBases...) {
				told[wantMixed(t, x, levels, base)]++
			}
		}
	})
	if told[true] < 1000 || told[false] < 1000 {
		t.Fatalf("costs that are not too great, and that are: %v", told)
	}
}

func TestMixedCostsAsExamples(t *testing.T) {
	for _, example := range []struct {
		x            impl.Scheme
		levels, base int64
		want         int64
	}{
		{strassen(2), 0, 1, 1},
		{strassen(2), 0, 3, 45},
		{strassen(2), 1, 1, 25},
		{strassen(3), 1, 2, 7*12 + 18*4},
		{strassen(5), 2, 3, 49*45 + 7*18*9 + 18*36},
		{fullScheme(2, 2, 0), 0, 1000, 1999000000},
		{fullScheme(2, 2, 0), 8, 1000, 0},
		{makeScheme(2, 2, 2, 2, "1 1 1"), 8, 1000, 1999000000},
		{makeScheme(2, 3, 3, 3, "1 11 1"), 2, 1000, 1999000000 + 1000000 + 9000000},
	} {
		wantSame(t, fmt.Sprint("MixedCost of ", example.x, example.levels, example.base), mixedCost(t, example.x, example.levels, example.base), example.want)
	}
}

// withCost returns a square scheme with so many products and additions.
func withCost(t *testing.T, p, n int64, products int, additions int64) impl.Scheme {
	t.Helper()
	x, places := impl.Scheme{Prime: p, Rows: n, Inner: n, Cols: n}, int(n*n)
	for i := range products {
		var q impl.Product
		q.A[0], q.B[0], q.C[i%places] = 1, 1, 1
		x.Products = append(x.Products, q)
	}
	missing := additions - expectCost(x)[3]
	add := func(f *impl.Form, place int) {
		if missing > 0 && f[place] == 0 {
			f[place] = byte(p - 1)
			missing--
		}
	}
	for i := range x.Products {
		for place := range places {
			add(&x.Products[i].A, place)
			add(&x.Products[i].B, place)
			// A number at a place of Z that no product has is no addition.
			if place < products {
				add(&x.Products[i].C, place)
			}
		}
	}
	cost := expectCost(x)
	wantSame(t, "additions of a scheme made for them", []int64{cost[0], cost[1] + cost[2] + cost[3]}, []int64{int64(products), additions})
	return x
}

// TestMixedCostsNearMaxCost has the greatest mixed cost that is not too great, of all square schemes,
// and the least one that is. The latter has neither M nor S greater than MaxCost.
func TestMixedCostsNearMaxCost(t *testing.T) {
	for _, p := range primes {
		below := withCost(t, p, 2, 29, 149)
		wantSame(t, "the greatest mixed cost", mixedCost(t, below, 4, 890), int64(999999926932800))
		above := withCost(t, p, 3, 21, 199)
		m, s := expectLevels(above, 5, bigOf(494))
		if isTooGreat(m[5]) || isTooGreat(s[5]) || plus(m[5], s[5]).Int64() != 1000000096936776 {
			t.Fatalf("M and S are %v and %v", m[5], s[5])
		}
		mixed, code := impl.MixedCost(above, 5, 494)
		wantError(t, "MixedCost", mixed, code, impl.ErrLimit)
		wantMixed(t, above, 5, 493)
		wantMixed(t, above, 5, 495)
	}
}

// TestMixedCostsTooGreatOnTheWay has products of more than 64 bits in the last levels.
func TestMixedCostsTooGreatOnTheWay(t *testing.T) {
	for levels := int64(5); levels <= impl.MaxLevels; levels++ {
		for base := int64(900); base <= 1000; base++ {
			mixed, code := impl.MixedCost(fullScheme(2, 3, 30), levels, base)
			wantError(t, fmt.Sprint("MixedCost of ", levels, base), mixed, code, impl.ErrLimit)
		}
	}
}
