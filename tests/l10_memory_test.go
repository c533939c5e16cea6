package tests

import (
	"fmt"
	"slices"
	"sync"
	"testing"
	"time"

	"loop.example/g01262/impl"
)

// roomyPairs returns a copy of a list with room behind it, filled with pairs of its own, and the whole list.
func roomyPairs(list []impl.Pair) ([]impl.Pair, []impl.Pair) {
	mark := impl.Pair{A: impl.Form{77}, B: impl.Form{88}}
	whole := append(slices.Clone(list), mark, mark, mark)
	return whole[:len(list)], whole
}

// spoilSearches overwrites all memory of what a function of chapter 10 returned.
func spoilSearches(result any) {
	switch made := result.(type) {
	case impl.Scheme:
		overwrite(made.Products)
	case []impl.Pair:
		overwrite(made)
	case []int64:
		overwrite(made)
	}
}

func TestSearchedSchemesAreNotChangedOrShared(t *testing.T) {
	s := &sequence{}
	list := roomySchemes()
	for _, p := range primes {
		list = append(list, equalProducts(p, 4), expectStandard(p, 3, 3, 3), alikeScheme(s, p, 1, 2, 3, impl.MaxProducts), someScheme(s, p, 3, 2, 1, 4))
	}
	list = append(list, impl.Scheme{}, someScheme(s, 2, 2, 2, 2, impl.MaxProducts+1))
	for _, scheme := range list {
		for _, call := range append(searchCalls(), badSearchCalls()...) {
			x, whole := roomy(scheme)
			before := slices.Clone(whole)
			result, code := call.run(x)
			wantProductsKept(t, call.name+": its argument", whole, before)
			text := fmt.Sprint(result)
			spoilSearches(result)
			wantProductsKept(t, call.name+": its argument after the result was changed", whole, before)
			again, codeAgain := call.run(x)
			wantSame(t, call.name+" again", fmt.Sprint(again), text)
			wantCode(t, call.name+" again", codeAgain, code)
		}
	}
}

// TestListsOfPairsAreNotChangedOrShared has lists that can be completed, that cannot, and that are wrong.
func TestListsOfPairsAreNotChangedOrShared(t *testing.T) {
	s := &sequence{}
	for _, size := range [][4]int64{{2, 2, 2, 2}, {3, 1, 2, 3}, {5, 2, 1, 2}, {3, 3, 3, 3}} {
		x := frame(size[0], size[1], size[2], size[3])
		lists := append(listsOfPairs(s, x), somePairs(s, x, impl.MaxPairs+1), []impl.Pair{{}}, append(somePairs(s, x, 3), impl.Pair{A: impl.Form{9}, B: impl.Form{1}}))
		for _, pairs := range lists {
			for _, function := range pairFunctions {
				list, whole := roomyPairs(pairs)
				before := slices.Clone(whole)
				result, code := function.run(x.Prime, x.Rows, x.Inner, x.Cols, list)
				text := fmt.Sprint(result)
				spoilSearches(result)
				if !slices.Equal(whole, before) {
					t.Fatalf("%s changed its list to %v from %v", function.name, whole, before)
				}
				again, codeAgain := function.run(x.Prime, x.Rows, x.Inner, x.Cols, list)
				wantSame(t, function.name+" again", fmt.Sprint(again), text)
				wantCode(t, function.name+" again", codeAgain, code)
			}
		}
	}
}

// TestSearchesAgain changes what the functions without lists return, and calls again.
func TestSearchesAgain(t *testing.T) {
	eachSearched(func(n, m, k int64) {
		text := spoil(first(impl.AllPairs(n, m, k)))
		wantSame(t, "AllPairs again", spoil(first(impl.AllPairs(n, m, k))), text)
		wantSame(t, "LeastNumber again", first(impl.LeastNumber(n, m, k)), first(impl.LeastNumber(n, m, k)))
		for r := range int64(4) {
			wantSame(t, "CountPairSets again", first(impl.CountPairSets(n, m, k, r)), first(impl.CountPairSets(n, m, k, r)))
		}
	})
}

// TestSearchesAtOnce calls from many goroutines, with one scheme and one list.
func TestSearchesAtOnce(t *testing.T) {
	x := expectStandard(3, 2, 3, 2)
	list := expectPairsOf(x)
	want := expectStroll(x, 77, 50)
	var group sync.WaitGroup
	for range 20 {
		group.Go(func() {
			for range 5 {
				made, _ := impl.CompletePairs(3, 2, 3, 2, list)
				walk, _ := impl.WalkScheme(x, 77, 50)
				least, _ := impl.LeastNumber(1, 3, 1)
				if !sameScheme(made, x) || !sameScheme(walk, want) || least != 3 {
					t.Errorf("CompletePairs = %v, WalkScheme = %v, LeastNumber = %d", made, walk, least)
				}
			}
		})
	}
	group.Wait()
}

// longest is far more than any call should take.
const longest = 10 * time.Second

// TestSearchesReturnInTime has the greatest arguments that are allowed, and longer lists.
func TestSearchesReturnInTime(t *testing.T) {
	s := &sequence{}
	full := frame(5, 3, 3, 3)
	long := somePairs(s, full, 1<<20)
	calls := map[string]func(){
		"CompletePairs of a long list": func() { impl.CompletePairs(5, 3, 3, 3, long) },
		"RankOfPairs of a long list":   func() { impl.RankOfPairs(5, 3, 3, 3, long) },
		"CompletePairs of 30 pairs":    func() { impl.CompletePairs(5, 3, 3, 3, long[:impl.MaxPairs]) },
		"LeastNumber of 1, 3 and 1":    func() { impl.LeastNumber(1, 3, 1) },
		"LeastNumber of 1, 2 and 2":    func() { impl.LeastNumber(1, 2, 2) },
		"LeastNumber of 2, 2 and 1":    func() { impl.LeastNumber(2, 2, 1) },
		"LeastNumber of 2, 1 and 2":    func() { impl.LeastNumber(2, 1, 2) },
		"CountPairSets of 1, 3 and 1":  func() { impl.CountPairSets(1, 3, 1, 3) },
		"CountPairSets of 2, 2 and 1":  func() { impl.CountPairSets(2, 2, 1, 4) },
	}
	for name, x := range map[string]impl.Scheme{
		"drawn products": someScheme(s, 5, 3, 3, 3, impl.MaxProducts), "alike products": alikeScheme(s, 5, 3, 3, 3, impl.MaxProducts),
		"equal products": equalProducts(5, impl.MaxProducts),
	} {
		for _, call := range append(searchCalls(), badSearchCalls()[:3]...) {
			calls[call.name+" of "+name] = func() { call.run(x) }
		}
	}
	for name, call := range calls {
		from := time.Now()
		call()
		if took := time.Since(from); took > longest {
			t.Errorf("%s took %v", name, took)
		}
	}
}
