package tests

import (
	"fmt"
	"testing"

	"loop.example/g01262/impl"
)

// Promise 10: completed schemes are correct, and walks of correct schemes are correct.
// Promise 12, of chapter 10: pairs of correct schemes can be completed.
// Promise 14, of chapter 10: walks go on one after the other.

// wantRight tests as wantCorrect does, with a text only if something is wrong.
func wantRight(t *testing.T, what string, x impl.Scheme) {
	t.Helper()
	correct, code := impl.IsCorrect(x)
	if !correct || code != impl.ErrNone || !expectScheme(x) || len(expectWrong(x)) > 0 {
		t.Fatalf("%s = %v, which is not correct: IsCorrect %v, %d", what, x, correct, code)
	}
}

// TestSchemesThatShouldBeCorrect looks whether those are correct with which the promises are tested.
func TestSchemesThatShouldBeCorrect(t *testing.T) {
	lengths := map[int]bool{}
	eachCorrectMoved(func(s *sequence, x impl.Scheme) {
		if !expectScheme(x) || len(expectWrong(x)) > 0 {
			t.Fatalf("a scheme to test with is not correct: %v", x)
		}
		lengths[len(x.Products)] = true
	})
	if len(lengths) < impl.MaxProducts {
		t.Fatalf("the schemes have only these numbers of products: %v", lengths)
	}
}

// TestPromise10CompletedSchemesAreCorrect has lists of pairs of all kinds.
func TestPromise10CompletedSchemesAreCorrect(t *testing.T) {
	can, cannot := 0, 0
	eachPairList(func(s *sequence, x impl.Scheme, list []impl.Pair) {
		made, found := completed(t, x, list)
		if !found {
			cannot++
			return
		}
		can++
		wantRight(t, "CompletePairs", made)
		if len(made.Products) > len(list) {
			t.Fatalf("CompletePairs of %v = %v, which has more products", list, made)
		}
	})
	if can < 500 || cannot < 500 {
		t.Fatalf("%d lists can be completed, and %d cannot", can, cannot)
	}
}

// TestPromise12PairsOfCorrectSchemes completes the pairs of correct schemes, also in another order, and those of the
// completed scheme, which are completed as it is.
func TestPromise12PairsOfCorrectSchemes(t *testing.T) {
	eachCorrectMoved(func(s *sequence, x impl.Scheme) {
		list := pairsOf(t, x)
		for _, pairs := range [][]impl.Pair{list, shuffled(s, list)} {
			made, can := completed(t, x, pairs)
			if !can {
				t.Fatalf("the pairs of %v cannot be completed in the order %v", x, pairs)
			}
			wantRight(t, "CompletePairs", made)
			if again, _ := completed(t, x, pairsOf(t, made)); !sameScheme(again, made) {
				t.Fatalf("the pairs of %v, a completed scheme, become %v", made, again)
			}
		}
	})
}

// TestPromise12SchemesComeBack tests that a correct scheme comes back from its pairs if none of these is free.
func TestPromise12SchemesComeBack(t *testing.T) {
	back, others := 0, 0
	eachCorrectMoved(func(s *sequence, x impl.Scheme) {
		list := pairsOf(t, x)
		if rankOfPairs(t, x, list) < int64(len(list)) {
			others++
			return
		}
		back++
		if made, _ := completed(t, x, list); !sameScheme(made, x) {
			t.Fatalf("the pairs of %v become %v", x, made)
		}
	})
	if back < 500 || others < 20 {
		t.Fatalf("%d schemes without free pairs, and %d with some", back, others)
	}
}

// TestPromise12KnownSchemes has the schemes that the program itself makes.
func TestPromise12KnownSchemes(t *testing.T) {
	eachSize(func(p, n, m, k int64) {
		for _, x := range []impl.Scheme{standard(t, p, n, m, k), first(impl.JoinScheme(p, n, m, k))} {
			made, can := completed(t, x, pairsOf(t, x))
			wantSame(t, fmt.Sprint("the pairs can be completed of ", x), can, true)
			wantScheme(t, "CompletePairs of its pairs", x, made, x)
		}
	})
	for _, p := range primes {
		for _, name := range []string{"strassen", "winograd", "plain"} {
			x, code := impl.KnownScheme(name, p)
			wantCode(t, "KnownScheme", code, impl.ErrNone)
			made, can := completed(t, x, pairsOf(t, x))
			wantSame(t, fmt.Sprint("the pairs can be completed of ", x), can, true)
			wantScheme(t, "CompletePairs of its pairs", x, made, x)
		}
	}
}

// TestMergedSchemesAreCorrect tests that merged schemes keep the left sides, have no more products, and are merged.
func TestMergedSchemesAreCorrect(t *testing.T) {
	fewer := 0
	eachCorrectMoved(func(s *sequence, x impl.Scheme) {
		made := merged(t, x)
		wantRight(t, "MergeScheme", made)
		if len(made.Products) > len(x.Products) {
			t.Fatalf("MergeScheme of %v = %v, which has more products", x, made)
		}
		fewer += count(len(made.Products) < len(x.Products))
	})
	if fewer < 100 {
		t.Fatalf("only %d schemes had products to merge", fewer)
	}
}

func TestMergedSchemesKeepTheirSums(t *testing.T) {
	eachSchemeToSearch(func(s *sequence, x impl.Scheme) {
		made := merged(t, x)
		wantMoved(t, "MergeScheme", x, made, impl.ErrNone, expectMerged(x), expectSums(x))
		wantMoved(t, "MergeScheme again", made, merged(t, made), impl.ErrNone, made, expectSums(x))
		if len(made.Products) > len(x.Products) {
			t.Fatalf("MergeScheme of %v = %v, which has more products", x, made)
		}
	})
}

// someSteps returns numbers of steps, mostly small ones.
func someSteps(s *sequence) int64 { return []int64{0, 1, 2, 3, 5, 20, 77, impl.MaxStroll}[s.below(8)] }

// TestPromise10WalksAreCorrect walks with drawn seeds.
func TestPromise10WalksAreCorrect(t *testing.T) {
	changed, fewer := 0, 0
	eachCorrectMoved(func(s *sequence, x impl.Scheme) {
		made := walked(t, x, someSeed(s), someSteps(s))
		wantRight(t, "WalkScheme", made)
		if len(made.Products) > len(x.Products) {
			t.Fatalf("WalkScheme of %v = %v, which has more products", x, made)
		}
		changed += count(!sameScheme(made, x))
		fewer += count(len(made.Products) < len(x.Products))
	})
	if changed < 300 || fewer < 5 {
		t.Fatalf("%d walks changed a scheme, and %d of them left out products", changed, fewer)
	}
}

// TestPromise10ManySeeds walks from few schemes with many seeds and all numbers of steps.
func TestPromise10ManySeeds(t *testing.T) {
	s := &sequence{}
	for _, p := range primes {
		for _, x := range []impl.Scheme{expectStandard(p, 2, 2, 2), expectJoinScheme(p, 2, 3, 2), expectStandard(p, 1, 3, 3), strassen(p)} {
			for steps := range int64(impl.MaxStroll + 1) {
				seed := someSeed(s)
				if steps < int64(len(someSeeds)) {
					seed = someSeeds[steps]
				}
				wantRight(t, "WalkScheme", walked(t, x, seed, steps))
			}
		}
	}
}

func TestWalksKeepTheirSums(t *testing.T) {
	left := 0
	eachSchemeToSearch(func(s *sequence, x impl.Scheme) {
		seed, steps := someSeed(s), someSteps(s)
		made := walked(t, x, seed, steps)
		wantMoved(t, "WalkScheme", x, made, impl.ErrNone, expectStroll(x, seed, steps), expectSums(x))
		left += len(x.Products) - len(made.Products)
	})
	if left < 1000 {
		t.Fatalf("only %d products were left out by walks", left)
	}
}

// wantGoingOn tests that a walk of some steps and one of more steps behind it are one walk of all steps.
func wantGoingOn(t *testing.T, x impl.Scheme, seed, steps, more int64) {
	t.Helper()
	all, half := walked(t, x, seed, steps+more), walked(t, x, seed, steps)
	if steps > 0 {
		seed = numbersBehind(seed, 3*steps)[3*steps-1]
	}
	if made := walked(t, half, seed, more); !sameScheme(made, all) {
		t.Fatalf("a walk from %v of %d steps and %d more = %v, but of all of them it is %v", x, steps, more, made, all)
	}
}

func TestPromise14WalksGoOn(t *testing.T) {
	eachSchemeToSearch(func(s *sequence, x impl.Scheme) {
		steps := s.below(40)
		wantGoingOn(t, x, someSeed(s), steps, s.below(40))
		wantGoingOn(t, x, someSeed(s), 0, steps)
	})
}

// TestPromise14WalksGoOnToTheirEnd has walks of MaxStroll steps in two parts of all lengths, also of schemes that
// lose all of their products.
func TestPromise14WalksGoOnToTheirEnd(t *testing.T) {
	s := &sequence{}
	empty := 0
	for _, p := range primes {
		for _, x := range []impl.Scheme{expectStandard(p, 2, 2, 2), alikeScheme(s, p, 2, 2, 2, 14), equalProducts(p, int(p)), equalProducts(p, impl.MaxProducts)} {
			for steps := int64(0); steps <= impl.MaxStroll; steps += 1 + s.below(9) {
				seed := someSeed(s)
				wantGoingOn(t, x, seed, steps, impl.MaxStroll-steps)
				empty += count(len(expectStroll(x, seed, impl.MaxStroll).Products) == 0)
			}
		}
	}
	if empty < 10 {
		t.Fatalf("only %d walks left no products", empty)
	}
}

// TestWalksStepByStep goes one step at a time.
func TestWalksStepByStep(t *testing.T) {
	for _, p := range primes {
		for _, seed := range someSeeds {
			x, last := expectStandard(p, 2, 3, 2), seed
			for steps := range int64(impl.MaxStroll) {
				x = walked(t, x, last, 1)
				last = numbersBehind(last, 3)[2]
				wantScheme(t, fmt.Sprint(steps+1, " steps"), x, walked(t, expectStandard(p, 2, 3, 2), seed, steps+1), x)
			}
		}
	}
}

func TestLeastNumbersAreProducts(t *testing.T) {
	eachSearched(func(n, m, k int64) {
		least, code := impl.LeastNumber(n, m, k)
		wantCode(t, "LeastNumber", code, impl.ErrNone)
		wantSame(t, fmt.Sprint("LeastNumber of ", n, m, k), least, n*m*k)
	})
}
