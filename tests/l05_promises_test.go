package tests

import (
	"fmt"
	"testing"

	"loop.example/g01262/impl"
)

// Promise 5: three turns lead back, and ranks add up in direct sums and multiply in Kronecker products.

func turnOf(t *testing.T, x impl.Tensor) impl.Tensor {
	t.Helper()
	made, code := impl.TurnTensor(x)
	wantTensor(t, "TurnTensor", x, made, code, expectTurn(x))
	return made
}

func TestPromise5ThreeTurnsLeadBack(t *testing.T) {
	eachTensor(t, func(s *sequence, x impl.Tensor) {
		once := turnOf(t, x)
		twice := turnOf(t, once)
		wantSame(t, "sides of a turn", sidesOf(once), [3]int64{x.J, x.K, x.I})
		wantSame(t, "sides after two turns", sidesOf(twice), [3]int64{x.K, x.I, x.J})
		made, code := impl.TurnTensor(twice)
		wantTensor(t, "three turns", x, made, code, x)
	})
}

// TestPromise5TurnsMoveRanks tests that ranks are turned as the sides are.
func TestPromise5TurnsMoveRanks(t *testing.T) {
	eachTensor(t, func(s *sequence, x impl.Tensor) {
		ranks := ranksOfTensor(t, x)
		turned := ranksOfTensor(t, turnOf(t, x))
		if turned != [3]int64{ranks[1], ranks[2], ranks[0]} {
			t.Fatalf("ranks of the turn of %v = %v, of itself %v", x, turned, ranks)
		}
	})
}

// TestPromise5TurnedSchemes has the tensors of schemes that are turned, which have the last side in
// another order.
func TestPromise5TurnedSchemes(t *testing.T) {
	eachSize(func(p, n, m, k int64) {
		ranks := ranksOfTensor(t, matrixTensor(t, p, n, m, k))
		scheme := ranksOfTensor(t, tensorOf(t, turned(t, expectStandard(p, n, m, k))))
		wantSame(t, "ranks of the tensor of a turned scheme", scheme, [3]int64{ranks[1], ranks[2], ranks[0]})
	})
}

func TestPromise5RanksOfDirectSums(t *testing.T) {
	sums := 0
	pairsOfTensors(t, func(s *sequence, x, y impl.Tensor) {
		made, code := impl.DirectSum(x, y)
		if code == impl.ErrLimit {
			return
		}
		wantTensor(t, fmt.Sprint("DirectSum with ", y), x, made, code, expectDirectSum(x, y))
		first, second, ranks := ranksOfTensor(t, x), ranksOfTensor(t, y), ranksOfTensor(t, made)
		for side, rank := range ranks {
			if rank != first[side]+second[side] {
				t.Fatalf("ranks of the direct sum of %v and %v = %v, of them %v and %v", x, y, ranks, first, second)
			}
		}
		sums++
	})
	if sums < 1000 {
		t.Fatalf("only %d direct sums were tested", sums)
	}
}

func TestPromise5RanksOfKroneckerProducts(t *testing.T) {
	products := 0
	pairsOfTensors(t, func(s *sequence, x, y impl.Tensor) {
		made, code := impl.KroneckerTensors(x, y)
		if code == impl.ErrLimit {
			return
		}
		wantTensor(t, fmt.Sprint("KroneckerTensors with ", y), x, made, code, expectKronecker(x, y))
		first, second, ranks := ranksOfTensor(t, x), ranksOfTensor(t, y), ranksOfTensor(t, made)
		for side, rank := range ranks {
			if rank != first[side]*second[side] {
				t.Fatalf("ranks of the Kronecker product of %v and %v = %v, of them %v and %v", x, y, ranks, first, second)
			}
		}
		products++
	})
	if products < 1000 {
		t.Fatalf("only %d Kronecker products were tested", products)
	}
}

// TestPromise5RanksOfSums takes each multiple of tensors of equal sides.
func TestPromise5RanksOfSums(t *testing.T) {
	s := &sequence{}
	for _, p := range primes {
		for _, sides := range someSides {
			list := tensorsOf(s, p, sides)
			for _, x := range list {
				for _, y := range list[2:5] {
					for k := range p {
						wantRanksOfSum(t, x, y, k)
					}
				}
			}
		}
		for at := range int64(27) {
			n, m, k := at/9+1, at/3%3+1, at%3+1
			x, y := matrixTensor(t, p, n, m, k), tensorOf(t, someScheme(s, p, n, m, k, 3))
			for by := range p {
				wantRanksOfSum(t, x, y, by)
				wantRanksOfSum(t, y, x, by)
				wantRanksOfSum(t, x, x, by)
			}
		}
	}
}

func wantRanksOfSum(t *testing.T, x, y impl.Tensor, k int64) {
	t.Helper()
	made, code := impl.AddTensors(x, y, k)
	wantTensor(t, fmt.Sprint("AddTensors with ", k, " times ", y), x, made, code, expectAdded(x, y, k))
	first, second, ranks := ranksOfTensor(t, x), ranksOfTensor(t, y), ranksOfTensor(t, made)
	for side, rank := range ranks {
		if rank > first[side]+second[side] {
			t.Fatalf("ranks of %v and %d times %v = %v, of them %v and %v", x, k, y, ranks, first, second)
		}
	}
}

// TestPromise5ContractionsOfSimple contracts with all lists, but for long sides with some.
func TestPromise5ContractionsOfSimple(t *testing.T) {
	s := &sequence{}
	for _, p := range primes {
		for _, sides := range someSides {
			x := someSimple(s, p, sides)
			for side, length := range sides {
				lists := [][]int64{someList(s, p, length), someList(s, p, length), someList(s, p, length)}
				if power(p, length) < 200 {
					lists = allColumns(p, length)
				}
				for _, numbers := range lists {
					rows, code := impl.ContractTensor(x, int64(side), numbers)
					what := fmt.Sprint("ContractTensor of the side ", side, " with ", numbers)
					wantRows(t, what, x, rows, code, expectContracted(x, int64(side), numbers))
					if rank := rowRank(t, p, rows); rank > 1 {
						t.Fatalf("%s of %v has the rank %d", what, x, rank)
					}
				}
			}
		}
	}
}

// wantFactors tests that lists make a simple tensor, and begin as they have to.
func wantFactors(t *testing.T, x impl.Tensor) [][]int64 {
	t.Helper()
	lists, code := impl.FactorsOfSimple(x)
	if len(lists) != 3 || code != impl.ErrNone {
		t.Fatalf("FactorsOfSimple of %v = %v, %d", x, lists, code)
	}
	wantSame(t, "lengths of lists", [3]int64{int64(len(lists[0])), int64(len(lists[1])), int64(len(lists[2]))}, sidesOf(x))
	if !sameTensor(simpleTensor(x.Prime, lists[0], lists[1], lists[2]), x) || !startsWithOne(lists[0]) || !startsWithOne(lists[1]) {
		t.Fatalf("FactorsOfSimple of %v = %v", x, lists)
	}
	for _, number := range lists[2] {
		if number < 0 || number >= x.Prime {
			t.Fatalf("FactorsOfSimple of %v = %v", x, lists)
		}
	}
	return lists
}

func wantSimple(t *testing.T, x impl.Tensor, want bool) {
	t.Helper()
	simple, code := impl.IsSimple(x)
	if simple != want || code != impl.ErrNone {
		t.Fatalf("IsSimple of %v = %v, %d, want %v", x, simple, code, want)
	}
	if want {
		wantFactors(t, x)
		return
	}
	lists, code := impl.FactorsOfSimple(x)
	wantError(t, "FactorsOfSimple", lists, code, impl.ErrState)
}

// TestPromise5SimpleTensors tests that tensors are simple exactly if all their ranks are 1.
func TestPromise5SimpleTensors(t *testing.T) {
	eachTensor(t, func(s *sequence, x impl.Tensor) { wantSimple(t, x, expectRanks(x) == [3]int64{1, 1, 1}) })
}

// TestSimpleByTrying takes all tensors of a few numbers, and tries all lists.
func TestSimpleByTrying(t *testing.T) {
	for _, p := range primes {
		for _, sides := range [][3]int64{{1, 1, 1}, {2, 1, 1}, {1, 2, 1}, {1, 1, 2}, {2, 2, 1}, {2, 1, 2}, {1, 2, 2}, {1, 1, 3}, {1, 3, 2}, {2, 2, 2}} {
			count := sides[0] * sides[1] * sides[2]
			if power(p, count) > 7000 {
				continue
			}
			for number := range power(p, count) {
				digits := matrixOf(number, p, 1, count)[0]
				x := impl.Tensor{Prime: p, I: sides[0], J: sides[1], K: sides[2], Numbers: digits}
				wantSimple(t, x, expectSimple(x))
			}
		}
	}
}

// TestNearlySimple changes one number of simple tensors, at each place.
func TestNearlySimple(t *testing.T) {
	s := &sequence{}
	for _, p := range primes {
		for _, sides := range [][3]int64{{2, 2, 2}, {1, 2, 3}, {3, 1, 2}, {2, 3, 1}, {9, 1, 2}, {4, 3, 5}} {
			for range 5 {
				x := someSimple(s, p, sides)
				wantSimple(t, x, true)
				for place := range x.Numbers {
					before := x.Numbers[place]
					x.Numbers[place] = (before + 1 + s.below(p-1)) % p
					wantSimple(t, x, expectRanks(x) == [3]int64{1, 1, 1})
					x.Numbers[place] = before
				}
			}
		}
	}
}

// The lists of these examples were found by hand.
func TestFactorsAsExamples(t *testing.T) {
	for _, example := range []struct {
		x     impl.Tensor
		lists [][]int64
	}{
		{impl.Tensor{Prime: 5, I: 1, J: 1, K: 1, Numbers: []int64{4}}, [][]int64{{1}, {1}, {4}}},
		{impl.Tensor{Prime: 5, I: 2, J: 1, K: 1, Numbers: []int64{2, 1}}, [][]int64{{1, 3}, {1}, {2}}},
		{impl.Tensor{Prime: 5, I: 1, J: 2, K: 1, Numbers: []int64{3, 1}}, [][]int64{{1}, {1, 2}, {3}}},
		{impl.Tensor{Prime: 3, I: 2, J: 2, K: 2, Numbers: []int64{0, 0, 0, 0, 0, 0, 0, 2}}, [][]int64{{0, 1}, {0, 1}, {0, 2}}},
		{impl.Tensor{Prime: 3, I: 2, J: 2, K: 2, Numbers: []int64{0, 2, 0, 1, 0, 1, 0, 2}}, [][]int64{{1, 2}, {1, 2}, {0, 2}}},
		{impl.Tensor{Prime: 2, I: 2, J: 1, K: 2, Numbers: []int64{0, 1, 0, 1}}, [][]int64{{1, 1}, {1}, {0, 1}}},
	} {
		wantRows(t, "FactorsOfSimple", example.x, wantFactors(t, example.x), impl.ErrNone, example.lists)
	}
}
