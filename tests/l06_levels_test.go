package tests

import (
	"fmt"
	"testing"

	"loop.example/g01262/impl"
)

// wantBest tests the levels of least cost, or that a cost is too great, and reports what was told.
func wantBest(t *testing.T, x impl.Scheme, levels, base int64) (int64, int64) {
	t.Helper()
	what := fmt.Sprint("BestLevels of ", x, levels, base)
	best, code := impl.BestLevels(x, levels, base)
	want, wantedCode := expectBest(x, levels, base)
	if wantedCode != impl.ErrNone {
		wantError(t, what, best, code, wantedCode)
		return best, code
	}
	wantCode(t, what, code, impl.ErrNone)
	wantSame(t, what, best, want)
	return best, code
}

func TestBestLevelsByTrying(t *testing.T) {
	told := map[[2]int64]int{}
	eachSquare(func(s *sequence, x impl.Scheme) {
		for levels := range int64(impl.MaxLevels + 1) {
			for _, base := range append([]int64{1 + s.below(1000)}, someBases...) {
				best, code := wantBest(t, x, levels, base)
				told[[2]int64{best, code}]++
			}
		}
	})
	if len(told) < 8 {
		t.Fatalf("best levels and codes %v: too few to test anything", told)
	}
}

func TestBestLevelsAsExamples(t *testing.T) {
	for _, example := range []struct {
		name                     string
		x                        impl.Scheme
		levels, base, want, code int64
	}{
		{"no level", strassen(2), 0, 1000, 0, impl.ErrNone},
		{"a small size", strassen(2), 2, 1, 0, impl.ErrNone},
		{"a size of 16", strassen(2), 1, 8, 1, impl.ErrNone},
		{"sizes of 1024 down to 1", strassen(3), 8, 4, 7, impl.ErrNone},
		{"equal costs", expectStandard(5, 2, 2, 2), 6, 10, 0, impl.ErrNone},
		{"equal costs of the size 3", expectStandard(5, 3, 3, 3), 4, 10, 0, impl.ErrNone},
		{"no products: any level costs nothing", fullScheme(2, 2, 0), 5, 7, 1, impl.ErrNone},
		{"no products, and no level", fullScheme(2, 3, 0), 0, 7, 0, impl.ErrNone},
		{"one product without additions", makeScheme(2, 2, 2, 2, "1 1 1"), 8, 3, 8, impl.ErrNone},
		{"the last plain cost that is not too great", expectStandard(2, 2, 2, 2), 8, 310, 0, impl.ErrNone},
		{"the first one that is", expectStandard(2, 2, 2, 2), 8, 311, 0, impl.ErrLimit},
		{"the same, of the size 3", expectStandard(2, 3, 3, 3), 4, 979, 0, impl.ErrNone},
		{"the same, of the size 3, too great", expectStandard(2, 3, 3, 3), 4, 980, 0, impl.ErrLimit},
		{"a plain cost alone that is too great", fullScheme(2, 2, 0), 8, 311, 0, impl.ErrLimit},
		{"a plain cost of more than 64 bits", makeScheme(2, 3, 3, 3, "1 1 1"), 8, 1000, 0, impl.ErrLimit},
		{"one level too great, and no level not", withCost(t, 2, 3, 28, 347), 4, 968, 0, impl.ErrLimit},
		{"many levels too great, and few not", fullScheme(2, 2, 30), 8, 200, 0, impl.ErrLimit},
	} {
		best, code := wantBest(t, example.x, example.levels, example.base)
		wantCode(t, "BestLevels, "+example.name, code, example.code)
		wantSame(t, "BestLevels, "+example.name, best, example.want)
	}
}

// TestBestLevelsNearMaxCost has the greatest cost that some number of levels may have, of all square
// schemes, and the least one that is too great.
func TestBestLevelsNearMaxCost(t *testing.T) {
	below, above := withCost(t, 3, 2, 29, 149), withCost(t, 3, 3, 28, 347)
	mixed, great := expectMixed(below, 4, bigOf(890))
	wantSame(t, "the greatest cost", fmt.Sprint(mixed, great), "999999926932800 false")
	mixed, great = expectMixed(above, 1, bigOf(27*968))
	wantSame(t, "the least cost that is too great", fmt.Sprint(mixed, great), "1000000085261760 true")
	_, code := wantBest(t, below, 4, 890)
	wantCode(t, "BestLevels of a cost that is not too great", code, impl.ErrNone)
	_, code = wantBest(t, above, 4, 968)
	wantCode(t, "BestLevels of a cost that is too great", code, impl.ErrLimit)
}

// wantGain tests the first gain, or its error, and returns both.
func wantGain(t *testing.T, x impl.Scheme, base int64) (int64, int64) {
	t.Helper()
	what := fmt.Sprint("FirstGain of ", x, base)
	gain, code := impl.FirstGain(x, base)
	want, wantedCode := expectGain(x, base)
	if wantedCode != impl.ErrNone {
		wantError(t, what, gain, code, wantedCode)
		return gain, code
	}
	wantCode(t, what, code, impl.ErrNone)
	wantSame(t, what, gain, want)
	return gain, code
}

func TestFirstGainsByTrying(t *testing.T) {
	told := map[int64]int{}
	eachSquare(func(s *sequence, x impl.Scheme) {
		for _, base := range append([]int64{1 + s.below(1000), 1 + s.below(1000)}, someBases...) {
			_, code := wantGain(t, x, base)
			told[code]++
		}
	})
	if told[impl.ErrNone] == 0 || told[impl.ErrNotFound] == 0 || told[impl.ErrLimit] == 0 || len(told) != 3 {
		t.Fatalf("codes %v", told)
	}
}

func TestFirstGainsAsExamples(t *testing.T) {
	for _, example := range []struct {
		name             string
		x                impl.Scheme
		base, want, code int64
	}{
		{"strassen", strassen(2), 32, 1, impl.ErrNone},
		{"strassen with base sizes that gain at once", strassen(2), 8, 1, impl.ErrNone},
		{"strassen with one less", strassen(2), 7, 2, impl.ErrNone},
		{"no products", fullScheme(2, 2, 0), 1, 1, impl.ErrNone},
		{"no products, of the size 3", fullScheme(2, 3, 0), 1000, 1, impl.ErrNone},
		{"equal costs are no gain", expectStandard(2, 2, 2, 2), 1, 0, impl.ErrNotFound},
		{"equal costs of the size 3", expectStandard(2, 3, 3, 3), 1, 0, impl.ErrNotFound},
		{"the last base size whose costs are all told", expectStandard(2, 2, 2, 2), 310, 0, impl.ErrNotFound},
		{"one more, whose last cost is too great", expectStandard(2, 2, 2, 2), 311, 0, impl.ErrLimit},
		{"the same, of the size 3", expectStandard(2, 3, 3, 3), 12, 0, impl.ErrNotFound},
		{"the same, of the size 3, too great", expectStandard(2, 3, 3, 3), 13, 0, impl.ErrLimit},
		{"more products than in the standard scheme", fullScheme(2, 2, 30), 1, 0, impl.ErrNotFound},
		{"many products, and a great base size", fullScheme(2, 2, 30), 1000, 0, impl.ErrLimit},
		{"products of more than 64 bits", fullScheme(2, 3, 30), 1000, 0, impl.ErrLimit},
	} {
		gain, code := wantGain(t, example.x, example.base)
		wantCode(t, "FirstGain, "+example.name, code, example.code)
		wantSame(t, "FirstGain, "+example.name, gain, example.want)
	}
}

// TestFirstGainsOfAllLevels has schemes of 26 products with more and more additions, which gain later
// and later, until the gain comes too late.
func TestFirstGainsOfAllLevels(t *testing.T) {
	told := map[string]bool{}
	for additions := int64(17); additions <= 641; additions += 3 {
		x := withCost(t, 2, 3, 26, additions)
		for _, base := range []int64{1, 2, 9, 20, 45, 60, 300} {
			gain, code := wantGain(t, x, base)
			told[fmt.Sprint(gain, code)] = true
		}
	}
	for gain := range impl.MaxLevels {
		if !told[fmt.Sprint(gain+1, impl.ErrNone)] {
			t.Errorf("no scheme had its first gain after %d levels", gain+1)
		}
	}
	if !told[fmt.Sprint(0, impl.ErrNotFound)] || !told[fmt.Sprint(0, impl.ErrLimit)] {
		t.Errorf("no scheme had no gain, or a cost too great: %v", told)
	}
}

// TestGainsThatComeBehindTheLimit has schemes that would gain, but whose cost of fewer levels, or of the
// same, is too great. Plain costs are greater than MaxCost there.
func TestGainsThatComeBehindTheLimit(t *testing.T) {
	fewer, same := 0, 0
	for additions := int64(400); additions <= 641; additions++ {
		x := withCost(t, 3, 3, 26, additions)
		for base := int64(13); base <= 70; base++ {
			if _, code := expectGain(x, base); code != impl.ErrLimit {
				continue
			}
			for l := int64(1); l <= impl.MaxLevels; l++ {
				if gain, great := isGain(x, l, base); gain && great {
					_, before := isGain(x, l-1, base)
					fewer, same = fewer+count(before), same+count(!before)
					break
				}
			}
			wantGain(t, x, base)
		}
	}
	if fewer == 0 || same == 0 {
		t.Fatalf("%d gains behind a cost too great, and %d at it", fewer, same)
	}
}

func count(yes bool) int {
	if yes {
		return 1
	}
	return 0
}

func TestGreaterSizesOfAllSizes(t *testing.T) {
	for n := int64(2); n <= impl.MaxSize; n++ {
		x := someScheme(&sequence{}, 5, n, n, n, 3)
		for size := int64(1); size <= 7000; size++ {
			wantGreater(t, x, size)
		}
		for _, size := range []int64{10000, 19683, 65536, 531441, 999999, 1000000} {
			wantGreater(t, x, size)
			made, code := impl.GreaterSize(x, size)
			wantError(t, fmt.Sprint("GreaterSize of ", size), made, code, impl.ErrNotFound)
		}
	}
}

func wantGreater(t *testing.T, x impl.Scheme, size int64) {
	t.Helper()
	made, code := impl.GreaterSize(x, size)
	want, wantedCode := expectGreater(x.Rows, size)
	wantCode(t, fmt.Sprint("GreaterSize of ", size, " for ", x.Rows), code, wantedCode)
	wantSame(t, fmt.Sprint("GreaterSize of ", size, " for ", x.Rows), made, want)
}

// TestGreaterSizesAtPowers has each power, one less and one more.
func TestGreaterSizesAtPowers(t *testing.T) {
	for n := int64(2); n <= impl.MaxSize; n++ {
		x, powers := fullScheme(2, n, 0), powersOf(n)
		for at, size := range powers {
			made, code := impl.GreaterSize(x, size)
			wantCode(t, "GreaterSize", code, impl.ErrNone)
			wantSame(t, fmt.Sprint("GreaterSize of ", size), made, size)
			above, code := impl.GreaterSize(x, size+1)
			if at == impl.MaxLevels {
				wantError(t, fmt.Sprint("GreaterSize of ", size+1), above, code, impl.ErrNotFound)
				continue
			}
			wantCode(t, "GreaterSize", code, impl.ErrNone)
			wantSame(t, fmt.Sprint("GreaterSize of ", size+1), above, powers[at+1])
		}
	}
}
