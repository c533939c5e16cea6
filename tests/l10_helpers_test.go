package tests

import (
	"fmt"
	"slices"
	"strings"
	"testing"

	"loop.example/g01262/impl"
)

// makePairs returns the pairs written as "A B; A B".
func makePairs(p int64, text string) []impl.Pair {
	var list []impl.Pair
	for _, pair := range strings.Split(text, ";") {
		parts := strings.Fields(pair)
		list = append(list, impl.Pair{A: makeForm(p, parts[0]), B: makeForm(p, parts[1])})
	}
	return list
}

func somePair(s *sequence, x impl.Scheme) impl.Pair {
	return impl.Pair{A: someForm(s, x.Prime, x.Rows*x.Inner), B: someForm(s, x.Prime, x.Inner*x.Cols)}
}

func somePairs(s *sequence, x impl.Scheme, count int) []impl.Pair {
	var list []impl.Pair
	for len(list) < count {
		list = append(list, somePair(s, x))
	}
	return list
}

// nonZero returns a sum of multiples of two forms that is not 0 everywhere.
func nonZero(s *sequence, p int64, f, g impl.Form) impl.Form {
	for {
		if sum := together(p, times(p, s.below(p), f), s.below(p), g); sum != (impl.Form{}) {
			return sum
		}
	}
}

// alikePairs returns pairs of which many are free: their forms are sums of multiples of few.
func alikePairs(s *sequence, x impl.Scheme, count int) []impl.Pair {
	var list []impl.Pair
	q, r := somePair(s, x), somePair(s, x)
	for len(list) < count {
		list = append(list, impl.Pair{A: nonZero(s, x.Prime, q.A, r.A), B: nonZero(s, x.Prime, q.B, r.B)})
	}
	return list
}

// multiplesOf returns pairs whose tables are multiples of those of a list.
func multiplesOf(s *sequence, p int64, list []impl.Pair) []impl.Pair {
	list = slices.Clone(list)
	for i, q := range list {
		list[i] = impl.Pair{A: times(p, 1+s.below(p-1), q.A), B: times(p, 1+s.below(p-1), q.B)}
	}
	return list
}

func shuffled[T any](s *sequence, list []T) []T {
	list = slices.Clone(list)
	for at := range list {
		other := s.below(int64(at) + 1)
		list[at], list[other] = list[other], list[at]
	}
	return list
}

// atMost returns the first pairs of a list, as many as a list may have.
func atMost(list []impl.Pair) []impl.Pair { return list[:min(len(list), impl.MaxPairs)] }

// listsOfPairs returns lists for a prime and sizes: those of correct schemes in several orders, with others in
// between, without one of them, and with multiples; lists that hardly ever can be completed; the empty one.
func listsOfPairs(s *sequence, x impl.Scheme) [][]impl.Pair {
	lists := [][]impl.Pair{
		nil, somePairs(s, x, 1), somePairs(s, x, 4), somePairs(s, x, impl.MaxPairs-1), somePairs(s, x, impl.MaxPairs),
		alikePairs(s, x, 3), alikePairs(s, x, 9), alikePairs(s, x, impl.MaxPairs),
	}
	for _, correct := range correctSchemes(x.Prime, x.Rows, x.Inner, x.Cols) {
		list := expectPairsOf(correct)
		more := slices.Concat(list, somePairs(s, x, 2), alikePairs(s, x, 1))
		twice := slices.Concat(list, multiplesOf(s, x.Prime, list))
		lists = append(lists,
			list, shuffled(s, list), shuffled(s, multiplesOf(s, x.Prime, list)), list[1:], list[:len(list)-1],
			shuffled(s, more), atMost(twice), shuffled(s, atMost(twice)), shuffled(s, atMost(slices.Concat(more, twice))),
			atMost(slices.Repeat(list, 3)), shuffled(s, atMost(slices.Repeat(more, impl.MaxPairs))),
		)
	}
	return lists
}

// eachPairList calls do for lists of pairs for all primes and sizes.
func eachPairList(do func(s *sequence, x impl.Scheme, list []impl.Pair)) {
	s := &sequence{}
	eachSize(func(p, n, m, k int64) {
		for _, list := range listsOfPairs(s, frame(p, n, m, k)) {
			do(s, frame(p, n, m, k), list)
		}
	})
}

// shortLists returns lists so short that all lists of numbers can be tried: pairs of the standard scheme, with sums,
// multiples and others.
func shortLists(s *sequence, x impl.Scheme) [][]impl.Pair {
	longest := map[int64]int{2: 8, 3: 6, 5: 4}[x.Prime]
	own := expectPairsOf(expectStandard(x.Prime, x.Rows, x.Inner, x.Cols))
	lists := [][]impl.Pair{nil, own, somePairs(s, x, 2), alikePairs(s, x, longest)}
	for range 12 {
		list := slices.Concat(own, multiplesOf(s, x.Prime, own), alikePairs(s, x, 2), somePairs(s, x, 1))
		lists = append(lists, shuffled(s, list)[:s.below(int64(len(list)))], shuffled(s, slices.Concat(own, list[len(own):][:s.below(4)])))
	}
	for i, list := range lists {
		lists[i] = list[:min(len(list), longest)]
	}
	return lists
}

// eachShortList calls do for such lists, for all primes and all sizes whose tables are not too long.
func eachShortList(do func(s *sequence, x impl.Scheme, list []impl.Pair)) {
	s := &sequence{}
	eachSize(func(p, n, m, k int64) {
		if n*m*k <= 6 {
			for _, list := range shortLists(s, frame(p, n, m, k)) {
				do(s, frame(p, n, m, k), list)
			}
		}
	})
}

// eachSearched calls do for all sizes whose pairs are all looked at.
func eachSearched(do func(n, m, k int64)) {
	for at := range int64(27) {
		if n, m, k := at/9+1, at/3%3+1, at%3+1; n*m*k <= 4 {
			do(n, m, k)
		}
	}
}

// someSeeds are seeds of walks, the least and the greatest ones among them.
var someSeeds = []int64{1, 2, 3, 48271, 16807, 182605794, 1 << 20, 1<<31 - 3, 1<<31 - 2, 1073741824, 123456789}

// someSeed draws a seed.
func someSeed(s *sequence) int64 { return 1 + s.below(2147483646) }

// oftenSplit splits products until there are as many as are drawn, at most MaxProducts.
func oftenSplit(s *sequence, x impl.Scheme) impl.Scheme {
	places := []int64{x.Rows * x.Inner, x.Inner * x.Cols, x.Rows * x.Cols}
	for most := len(x.Products) + int(s.below(int64(impl.MaxProducts-len(x.Products)+1))); len(x.Products) < most; {
		i, which := s.below(int64(len(x.Products))), s.below(3)
		form := someForm(s, x.Prime, places[which])
		if form == *factor(&x.Products[i], int(which)) {
			return x
		}
		x = expectSplit(x, i, which, form)
	}
	return x
}

// movedSchemes returns what flips, splits, plus moves and changes make of a scheme, which keep it correct.
func movedSchemes(s *sequence, x impl.Scheme) []impl.Scheme {
	count := int64(len(x.Products))
	places := []int64{x.Rows * x.Inner, x.Inner * x.Cols, x.Rows * x.Cols}
	made := []impl.Scheme{x, expectChanged(x, someTriple(s, x)), expectWalk(x, someNumbers(s, 7)), oftenSplit(s, x)}
	made = append(made, expectWalk(made[1], someNumbers(s, 20)))
	for which, length := range places {
		if i, form := s.below(count), someForm(s, x.Prime, length); form != *factor(&x.Products[i], which) {
			made = append(made, expectSplit(x, i, int64(which), form))
		}
	}
	if count > 1 {
		i := s.below(count)
		plus := expectPlus(x, i, (i+1+s.below(count-1))%count)
		made = append(made, plus, expectWalk(plus, someNumbers(s, 5)))
	}
	return made
}

// joinedSchemes returns joins of correct schemes, and one that is turned.
func joinedSchemes(p, n, m, k int64) []impl.Scheme {
	var list []impl.Scheme
	size := [3]int64{n, m, k}
	for _, way := range joinWays {
		for part := int64(1); part < size[way.at]; part++ {
			first, second := size, size
			first[way.at], second[way.at] = part, size[way.at]-part
			x := expectJoinScheme(p, first[0], first[1], first[2])
			list = append(list, way.expect(x, expectStandard(p, second[0], second[1], second[2])))
		}
	}
	return append(list, expectTurned(expectJoinScheme(p, k, n, m)))
}

// eachCorrectMoved calls do for correct schemes of all primes and sizes: standard, known, joined, changed and moved.
func eachCorrectMoved(do func(s *sequence, x impl.Scheme)) {
	s := &sequence{}
	eachSize(func(p, n, m, k int64) {
		for _, x := range append(correctSchemes(p, n, m, k), joinedSchemes(p, n, m, k)...) {
			for _, moved := range movedSchemes(s, x) {
				do(s, moved)
			}
		}
	})
}

// eachSchemeToSearch calls do for these, and for schemes that are not correct: with none to most products, many of
// them alike.
func eachSchemeToSearch(do func(s *sequence, x impl.Scheme)) {
	eachCorrectMoved(do)
	eachSchemeToMove(do)
	s := &sequence{5}
	eachSize(func(p, n, m, k int64) {
		for _, x := range []impl.Scheme{
			someScheme(s, p, n, m, k, impl.MaxProducts), alikeScheme(s, p, n, m, k, impl.MaxProducts), alikeScheme(s, p, n, m, k, 12),
		} {
			do(s, x)
		}
	})
}

// completed returns the completed scheme, and false if there is none, and tests that it is as it should be.
func completed(t *testing.T, x impl.Scheme, list []impl.Pair) (impl.Scheme, bool) {
	t.Helper()
	made, code := impl.CompletePairs(x.Prime, x.Rows, x.Inner, x.Cols, list)
	want, can := expectCompleted(x, list)
	if !can {
		wantError(t, fmt.Sprint("CompletePairs of ", x, list), made, code, impl.ErrNotFound)
		return impl.Scheme{}, false
	}
	if code != impl.ErrNone || !sameScheme(made, want) {
		t.Fatalf("CompletePairs of %v and %v = %v, %d, want %v", x, list, made, code, want)
	}
	return made, true
}

func rankOfPairs(t *testing.T, x impl.Scheme, list []impl.Pair) int64 {
	t.Helper()
	rank, code := impl.RankOfPairs(x.Prime, x.Rows, x.Inner, x.Cols, list)
	if code != impl.ErrNone {
		t.Fatalf("RankOfPairs of %v and %v: code %d", x, list, code)
	}
	return rank
}

func pairsOf(t *testing.T, x impl.Scheme) []impl.Pair {
	t.Helper()
	list, code := impl.PairsOf(x)
	if want := expectPairsOf(x); code != impl.ErrNone || !slices.Equal(list, want) {
		t.Fatalf("PairsOf %v = %v, %d, want %v", x, list, code, want)
	}
	return list
}

func needlessOf(t *testing.T, x impl.Scheme) []int64 {
	t.Helper()
	list, code := impl.NeedlessProducts(x)
	wantList(t, fmt.Sprint("NeedlessProducts of ", x), list, code, expectNeedless(x))
	return list
}

func merged(t *testing.T, x impl.Scheme) impl.Scheme {
	t.Helper()
	made, code := impl.MergeScheme(x)
	if want := expectMerged(x); code != impl.ErrNone || !sameScheme(made, want) {
		t.Fatalf("MergeScheme of %v = %v, %d, want %v", x, made, code, want)
	}
	return made
}

func walked(t *testing.T, x impl.Scheme, seed, steps int64) impl.Scheme {
	t.Helper()
	made, code := impl.WalkScheme(x, seed, steps)
	if want := expectStroll(x, seed, steps); code != impl.ErrNone || !sameScheme(made, want) {
		t.Fatalf("WalkScheme of %v by %d and %d = %v, %d, want %v", x, seed, steps, made, code, want)
	}
	return made
}
