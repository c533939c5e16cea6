package tests

import (
	"fmt"
	"slices"
	"testing"

	"loop.example/g01262/impl"
)

func TestConstantsOfSearches(t *testing.T) {
	wantSame(t, "MaxPairs, MaxStroll and MaxSets", [3]int64{impl.MaxPairs, impl.MaxStroll, impl.MaxSets}, [3]int64{30, 200, 20000})
}

// pairFunctions are the functions with a list of pairs.
var pairFunctions = []struct {
	name string
	run  func(p, n, m, k int64, list []impl.Pair) (any, int64)
}{
	{"CompletePairs", func(p, n, m, k int64, list []impl.Pair) (any, int64) {
		return pack(impl.CompletePairs(p, n, m, k, list))
	}},
	{"RankOfPairs", func(p, n, m, k int64, list []impl.Pair) (any, int64) { return pack(impl.RankOfPairs(p, n, m, k, list)) }},
}

// wantPairsError tests that both functions return a code and nothing else.
func wantPairsError(t *testing.T, what string, p, n, m, k int64, list []impl.Pair, want int64) {
	t.Helper()
	for _, function := range pairFunctions {
		result, code := function.run(p, n, m, k, list)
		if code != want {
			t.Fatalf("%s of %d, %d, %d, %d and %s: code %d, want %d", function.name, p, n, m, k, what, code, want)
		}
		wantError(t, function.name, result, code, want)
	}
}

// notPairs returns pairs for a prime and sizes that break one condition each, by the name of what is wrong.
func notPairs(x impl.Scheme) map[string]impl.Pair {
	s := &sequence{}
	list := map[string]impl.Pair{"nothing but zeros": {}}
	places := [2]int64{x.Rows * x.Inner, x.Inner * x.Cols}
	for which := range 2 {
		form := func(q *impl.Pair) *impl.Form { return []*impl.Form{&q.A, &q.B}[which] }
		zero := somePair(s, x)
		*form(&zero) = impl.Form{}
		list[fmt.Sprint("zeros in the form ", which)] = zero
		for place := range int64(9) {
			numbers := []byte{byte(x.Prime), byte(x.Prime + 1), 128, 255}
			if place >= places[which] {
				numbers = append(numbers, 1, byte(x.Prime-1))
			}
			for _, number := range numbers {
				q := somePair(s, x)
				form(&q)[place] = number
				list[fmt.Sprint(number, " at the place ", place, " of the form ", which)] = q
				alone := q
				*form(&alone) = impl.Form{}
				form(&alone)[place] = number
				list[fmt.Sprint(number, " alone at the place ", place, " of the form ", which)] = alone
			}
		}
	}
	return list
}

func TestNotPairs(t *testing.T) {
	eachSize(func(p, n, m, k int64) {
		x := frame(p, n, m, k)
		for name, q := range notPairs(x) {
			if expectPair(x, q) {
				t.Fatalf("a pair with %s is a pair: %v", name, q)
			}
			wantPairsError(t, "a pair with "+name, p, n, m, k, []impl.Pair{q}, impl.ErrInvalid)
		}
	})
}

// TestNotPairsAmongOthers has them in front of, between and behind pairs: such as can be completed, as many as there
// may be, and too many. The length of a list is looked at behind its pairs.
func TestNotPairsAmongOthers(t *testing.T) {
	s := &sequence{}
	for _, size := range [][4]int64{{2, 2, 2, 2}, {3, 1, 2, 3}, {5, 2, 3, 1}, {2, 3, 3, 3}, {5, 1, 1, 1}, {3, 3, 3, 3}} {
		x := frame(size[0], size[1], size[2], size[3])
		own := expectPairsOf(expectStandard(size[0], size[1], size[2], size[3]))
		for name, q := range notPairs(x) {
			for _, length := range []int{0, 1, len(own), impl.MaxPairs - 1, impl.MaxPairs, impl.MaxPairs + 1, 100} {
				list := slices.Repeat(own, 100)[:length]
				for _, at := range []int{0, length / 2, length} {
					wantPairsError(t, fmt.Sprint("a pair with ", name, " at ", at, " of ", length), x.Prime, x.Rows, x.Inner, x.Cols,
						slices.Insert(slices.Clone(list), at, q), impl.ErrInvalid)
				}
				both := append(slices.Clone(list), q, somePair(s, x), q)
				wantPairsError(t, "two of them", x.Prime, x.Rows, x.Inner, x.Cols, both, impl.ErrInvalid)
			}
		}
	}
}

// listsForRange returns lists with which all other errors would be told, and such as have none.
func listsForRange() map[string][]impl.Pair {
	one := makePairs(2, "1 1")
	return map[string][]impl.Pair{
		"nothing": nil, "one pair": one, "30 pairs": slices.Repeat(one, impl.MaxPairs), "31 pairs": slices.Repeat(one, impl.MaxPairs+1),
		"zeros": {{}}, "wrong numbers": makePairs(2, "9 9"), "numbers behind": makePairs(2, "000000001 1"),
		"31 pairs, one of them wrong": append(slices.Repeat(one, impl.MaxPairs), impl.Pair{}),
	}
}

// TestPrimesOfPairs tests that ErrRange is told ahead of ErrInvalid if p is no prime, whatever else is wrong.
func TestPrimesOfPairs(t *testing.T) {
	for _, p := range notPrimes {
		for name, list := range listsForRange() {
			wantPairsError(t, name, p, 1, 1, 1, list, impl.ErrRange)
			wantPairsError(t, name, p, 3, 3, 3, list, impl.ErrRange)
			for _, n := range notSizes {
				wantPairsError(t, name, p, n, 1, 1, list, impl.ErrRange)
			}
		}
	}
}

// TestSizesOfPairs tests that ErrRange is told ahead of ErrInvalid if a size is wrong, each alone and all of them.
func TestSizesOfPairs(t *testing.T) {
	for _, p := range primes {
		for _, n := range notSizes {
			for name, list := range listsForRange() {
				for _, other := range []int64{1, impl.MaxSize} {
					wantPairsError(t, name, p, n, other, other, list, impl.ErrRange)
					wantPairsError(t, name, p, other, n, other, list, impl.ErrRange)
					wantPairsError(t, name, p, other, other, n, list, impl.ErrRange)
				}
				wantPairsError(t, name, p, n, n, n, list, impl.ErrRange)
			}
		}
	}
}

// TestPairsOfOtherSizes has pairs that are such for greater sizes alone.
func TestPairsOfOtherSizes(t *testing.T) {
	eachSize(func(p, n, m, k int64) {
		for _, size := range [][3]int64{{n + 1, m, k}, {n, m + 1, k}, {n, m, k + 1}} {
			if max(size[0], size[1], size[2]) <= impl.MaxSize {
				list := expectPairsOf(expectStandard(p, size[0], size[1], size[2]))
				wantPairsError(t, "pairs for other sizes", p, n, m, k, list, impl.ErrInvalid)
			}
		}
	})
}

// TestLongListsOfPairs has MaxPairs pairs and more. They are too many even if they can be completed.
func TestLongListsOfPairs(t *testing.T) {
	s := &sequence{}
	eachSize(func(p, n, m, k int64) {
		x := frame(p, n, m, k)
		own := expectPairsOf(expectStandard(p, n, m, k))
		for _, length := range []int{impl.MaxPairs + 1, impl.MaxPairs + 2, 60, 257, 1 << 16} {
			wantPairsError(t, fmt.Sprint(length, " pairs"), p, n, m, k, slices.Repeat(own, length)[:length], impl.ErrRange)
		}
		wantPairsError(t, "31 drawn pairs", p, n, m, k, somePairs(s, x, impl.MaxPairs+1), impl.ErrRange)
		made, can := completed(t, x, slices.Repeat(own, impl.MaxPairs)[:impl.MaxPairs])
		wantSame(t, "30 pairs can be completed", can, true)
		wantScheme(t, "CompletePairs of 30 pairs", x, made, expectStandard(p, n, m, k))
		wantSame(t, "RankOfPairs of 30 pairs", rankOfPairs(t, x, slices.Repeat(own, impl.MaxPairs)[:impl.MaxPairs]), n*m*k)
	})
}

// TestListsThatCannotBeCompleted has lists that are too short, or without what one place of Z needs.
func TestListsThatCannotBeCompleted(t *testing.T) {
	s := &sequence{}
	eachSize(func(p, n, m, k int64) {
		x := expectStandard(p, n, m, k)
		for at := range x.Products {
			list := slices.Delete(expectPairsOf(x), at, at+1)
			made, code := impl.CompletePairs(p, n, m, k, list)
			wantError(t, "CompletePairs without one pair", made, code, impl.ErrNotFound)
			list = atMost(slices.Repeat(list, impl.MaxPairs))
			made, code = impl.CompletePairs(p, n, m, k, list)
			wantError(t, "CompletePairs without one pair, but 30 pairs", made, code, impl.ErrNotFound)
		}
		// The forms A have zeros in the last place, which all rows of Y need.
		if n*m > 1 {
			list := somePairs(s, x, impl.MaxPairs)
			for i := range list {
				list[i].A[n*m-1], list[i].A[0] = 0, 1
			}
			made, code := impl.CompletePairs(p, n, m, k, list)
			wantError(t, "CompletePairs without the last place of X", made, code, impl.ErrNotFound)
		}
	})
}

// searchCalls returns calls of the functions of chapter 10 of one scheme.
func searchCalls() []schemeCall {
	return []schemeCall{
		{"PairsOf", func(x impl.Scheme) (any, int64) { return pack(impl.PairsOf(x)) }},
		{"NeedlessProducts", func(x impl.Scheme) (any, int64) { return pack(impl.NeedlessProducts(x)) }},
		{"MergeScheme", func(x impl.Scheme) (any, int64) { return pack(impl.MergeScheme(x)) }},
		{"WalkScheme of no steps", func(x impl.Scheme) (any, int64) { return pack(impl.WalkScheme(x, 1, 0)) }},
		{"WalkScheme", func(x impl.Scheme) (any, int64) { return pack(impl.WalkScheme(x, 2147483646, 9)) }},
		{"WalkScheme of MaxStroll steps", func(x impl.Scheme) (any, int64) { return pack(impl.WalkScheme(x, 2, impl.MaxStroll)) }},
	}
}

// notSeeds and notSteps are values out of the ranges of walks; some are in their ranges in their lowest bytes.
var (
	notSeeds = []int64{0, -1, -2147483646, 1<<31 - 1, 1 << 31, 1<<31 + 1, 1<<32 + 1, 2 * (1<<31 - 1), 1<<63 - 1, -1 << 63}
	notSteps = []int64{-1, impl.MaxStroll + 1, -impl.MaxStroll, 256, 1 << 32, 1<<32 + 1, 1<<63 - 1, -1 << 63}
)

// badSearchCalls returns calls each of which would have an error of its own.
func badSearchCalls() []schemeCall {
	var list []schemeCall
	for _, seed := range notSeeds {
		for _, steps := range append(slices.Clone(notSteps), 0, 1, impl.MaxStroll) {
			list = append(list, schemeCall{fmt.Sprint("WalkScheme of ", seed, steps), func(x impl.Scheme) (any, int64) { return pack(impl.WalkScheme(x, seed, steps)) }})
		}
	}
	for _, steps := range notSteps {
		for _, seed := range someSeeds {
			list = append(list, schemeCall{fmt.Sprint("WalkScheme of ", seed, steps), func(x impl.Scheme) (any, int64) { return pack(impl.WalkScheme(x, seed, steps)) }})
		}
	}
	return list
}

// TestSearchesOfNoSchemes tests that ErrInvalid is told ahead of seeds and steps that are wrong.
func TestSearchesOfNoSchemes(t *testing.T) {
	for name, x := range notSchemes() {
		for _, call := range append(searchCalls(), badSearchCalls()...) {
			result, code := call.run(x)
			wantError(t, call.name+" of a scheme with "+name, result, code, impl.ErrInvalid)
		}
	}
}

func TestSeedsAndStepsOutOfRange(t *testing.T) {
	s := &sequence{}
	for _, p := range primes {
		for _, x := range []impl.Scheme{frame(p, 1, 1, 1), strassen(p), alikeScheme(s, p, 3, 3, 3, impl.MaxProducts)} {
			for _, call := range badSearchCalls() {
				result, code := call.run(x)
				wantError(t, call.name, result, code, impl.ErrRange)
			}
		}
	}
}

// TestSeedsAndStepsAtTheirLimits has the least and the greatest seeds and steps.
func TestSeedsAndStepsAtTheirLimits(t *testing.T) {
	for _, p := range primes {
		for _, x := range []impl.Scheme{frame(p, 1, 1, 1), strassen(p), expectStandard(p, 3, 3, 3)} {
			for _, seed := range []int64{1, 2, 2147483645, 2147483646} {
				for _, steps := range []int64{0, 1, impl.MaxStroll - 1, impl.MaxStroll} {
					walked(t, x, seed, steps)
				}
			}
		}
	}
}

// wantNotSearched tests that sizes are not allowed where all pairs are looked at, whatever r is.
func wantNotSearched(t *testing.T, n, m, k int64) {
	t.Helper()
	what := fmt.Sprint(" of ", n, " ", m, " ", k)
	list, code := impl.AllPairs(n, m, k)
	wantError(t, "AllPairs"+what, list, code, impl.ErrRange)
	least, code := impl.LeastNumber(n, m, k)
	wantError(t, "LeastNumber"+what, least, code, impl.ErrRange)
	for _, r := range []int64{0, 1, 3, 4, 5, -1, 1 << 62} {
		made, code := impl.CountPairSets(n, m, k, r)
		wantError(t, "CountPairSets"+what, made, code, impl.ErrRange)
	}
}

// TestSizesOfSearches has all sizes up to 6, and such that are far out, also those whose product is at most 4.
func TestSizesOfSearches(t *testing.T) {
	for n := int64(-1); n <= 6; n++ {
		for m := int64(-1); m <= 6; m++ {
			for k := int64(-1); k <= 6; k++ {
				if min(n, m, k) >= 1 && max(n, m, k) <= impl.MaxSize && n*m*k <= 4 {
					continue
				}
				wantNotSearched(t, n, m, k)
			}
		}
	}
	for _, n := range notSizes {
		for _, m := range append(slices.Clone(notSizes), 1, 2) {
			wantNotSearched(t, n, m, 1)
			wantNotSearched(t, 1, n, m)
			wantNotSearched(t, m, 1, n)
		}
	}
	for _, size := range [][3]int64{{1 << 32, 1 << 32, 1}, {1 << 62, 4, 1}, {-2, -2, 1}, {-1, 1, -4}, {1 << 31, 2, 1 << 32}} {
		wantNotSearched(t, size[0], size[1], size[2])
	}
}

// TestNumbersOfPairsInSets tests that ErrRange is told for r ahead of ErrLimit.
func TestNumbersOfPairsInSets(t *testing.T) {
	eachSearched(func(n, m, k int64) {
		for _, r := range []int64{-1, 5, 6, -4, 256, 1 << 32, 1<<32 + 1, 1<<63 - 1, -1 << 63} {
			made, code := impl.CountPairSets(n, m, k, r)
			wantError(t, fmt.Sprint("CountPairSets of ", n, m, k, r), made, code, impl.ErrRange)
		}
		for r := range int64(5) {
			made, code := impl.CountPairSets(n, m, k, r)
			if len(expectAllPairs(n, m, k)) > 40 && r == 4 {
				wantError(t, fmt.Sprint("CountPairSets of ", n, m, k, r), made, code, impl.ErrLimit)
				continue
			}
			wantCode(t, fmt.Sprint("CountPairSets of ", n, m, k, r), code, impl.ErrNone)
		}
	})
}
