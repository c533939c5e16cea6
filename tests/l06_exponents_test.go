package tests

import (
	"cmp"
	"fmt"
	"testing"

	"loop.example/g01262/impl"
)

// TestExponentsByPowers has all numbers of products, sizes, num and den.
func TestExponentsByPowers(t *testing.T) {
	s := &sequence{}
	for _, p := range primes {
		for n := int64(2); n <= impl.MaxSize; n++ {
			for products := 1; products <= impl.MaxProducts; products++ {
				x := someScheme(s, p, n, n, n, products)
				for num := range int64(25) {
					for den := int64(1); den <= 8; den++ {
						want := bigPower(int64(products), den).Cmp(bigPower(n, num)) <= 0
						wantExponent(t, x, num, den, want)
					}
				}
			}
		}
	}
}

func wantExponent(t *testing.T, x impl.Scheme, num, den int64, want bool) {
	t.Helper()
	yes, code := impl.IsExponentAtMost(x, num, den)
	if yes != want || code != impl.ErrNone {
		t.Fatalf("IsExponentAtMost of %v, %d, %d = %v, %d", x, num, den, yes, code)
	}
}

// TestExponentsThatAreEqual has exponents that are num / den exactly, so that less is not enough.
func TestExponentsThatAreEqual(t *testing.T) {
	for _, example := range []struct {
		n        int64
		products int
		exponent int64
	}{{2, 1, 0}, {2, 2, 1}, {2, 4, 2}, {2, 8, 3}, {2, 16, 4}, {3, 1, 0}, {3, 3, 1}, {3, 9, 2}, {3, 27, 3}} {
		x := someScheme(&sequence{}, 3, example.n, example.n, example.n, example.products)
		for den := int64(1); den <= 8; den++ {
			num := example.exponent * den
			if num <= 24 {
				wantExponent(t, x, num, den, true)
			}
			if 1 <= num && num <= 25 {
				wantExponent(t, x, num-1, den, false)
			}
			if num < 24 {
				wantExponent(t, x, num+1, den, true)
			}
		}
	}
}

// TestExponentsAsExamples has the exponent of strassen, 2.807.., between fractions near it.
func TestExponentsAsExamples(t *testing.T) {
	for _, p := range primes {
		for _, x := range []impl.Scheme{strassen(p), winograd(p)} {
			wantExponent(t, x, 17, 6, true)
			wantExponent(t, x, 23, 8, true)
			wantExponent(t, x, 20, 7, true)
			wantExponent(t, x, 14, 5, false)
			wantExponent(t, x, 19, 7, false)
			wantExponent(t, x, 0, 1, false)
			wantExponent(t, x, 24, 8, true)
		}
		wantExponent(t, expectJoinScheme(p, 3, 3, 3), 24, 8, true)
		wantExponent(t, expectJoinScheme(p, 3, 3, 3), 23, 8, false)
		wantExponent(t, fullScheme(p, 3, 30), 24, 8, false)
		wantExponent(t, fullScheme(p, 3, 30), 22, 7, true)
		wantExponent(t, fullScheme(p, 2, 30), 24, 1, true)
	}
}

// TestComparedExponents has all numbers of products with each other, and different primes.
func TestComparedExponents(t *testing.T) {
	s := &sequence{}
	for n := int64(2); n <= impl.MaxSize; n++ {
		for first := 1; first <= impl.MaxProducts; first++ {
			for second := 1; second <= impl.MaxProducts; second++ {
				x := someScheme(s, primes[s.below(3)], n, n, n, first)
				y := someScheme(s, primes[s.below(3)], n, n, n, second)
				compared, code := impl.CompareExponents(x, y)
				what := fmt.Sprint("CompareExponents of ", first, " and ", second, " products")
				wantCode(t, what, code, impl.ErrNone)
				wantSame(t, what, compared, int64(cmp.Compare(first, second)))
			}
		}
	}
}

func TestComparedExponentsOfKnownSchemes(t *testing.T) {
	for _, p := range primes {
		for _, example := range []struct {
			x, y impl.Scheme
			want int64
		}{
			{strassen(p), winograd(p), 0},
			{strassen(p), expectStandard(p, 2, 2, 2), -1},
			{expectStandard(p, 2, 2, 2), winograd(p), 1},
			{expectStandard(p, 3, 3, 3), expectJoinScheme(p, 3, 3, 3), 1},
		} {
			compared, code := impl.CompareExponents(example.x, example.y)
			wantCode(t, "CompareExponents", code, impl.ErrNone)
			wantSame(t, "CompareExponents", compared, example.want)
		}
	}
}
