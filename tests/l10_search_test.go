package tests

import (
	"fmt"
	"slices"
	"testing"

	"loop.example/g01262/impl"
)

// TestCompletePairsByTrying compares with all lists of numbers, of which there is one with 0 for all free pairs.
func TestCompletePairsByTrying(t *testing.T) {
	can, several := 0, 0
	eachShortList(func(s *sequence, x impl.Scheme, list []impl.Pair) {
		want, found := completedByTrying(x, list)
		made, code := impl.CompletePairs(x.Prime, x.Rows, x.Inner, x.Cols, list)
		if !found {
			wantError(t, fmt.Sprint("CompletePairs of ", x, list), made, code, impl.ErrNotFound)
			return
		}
		if code != impl.ErrNone || !sameScheme(made, want) {
			t.Fatalf("CompletePairs of %v and %v = %v, %d, want %v", x, list, made, code, want)
		}
		can++
		several += count(slices.Contains(freePairs(x, list), true))
	})
	if can < 200 || several < 100 {
		t.Fatalf("only %d lists can be completed, %d of them in several ways", can, several)
	}
}

// TestRankOfPairsByTrying compares with the pairs that are not free, for each beginning of a list: the rank grows
// exactly at those.
func TestRankOfPairsByTrying(t *testing.T) {
	free := 0
	eachShortList(func(s *sequence, x impl.Scheme, list []impl.Pair) {
		rank := int64(0)
		for i, isFree := range freePairs(x, list) {
			free += count(isFree)
			rank += int64(count(!isFree))
			if made := rankOfPairs(t, x, list[:i+1]); made != rank {
				t.Fatalf("RankOfPairs of %v and %v = %d, want %d", x, list[:i+1], made, rank)
			}
		}
	})
	if free < 300 {
		t.Fatalf("only %d pairs were free", free)
	}
}

func TestRankOfPairs(t *testing.T) {
	eachPairList(func(s *sequence, x impl.Scheme, list []impl.Pair) {
		rank := rankOfPairs(t, x, list)
		if want := expectRankOfPairs(x, list); rank != want {
			t.Fatalf("RankOfPairs of %v and %v = %d, want %d", x, list, rank, want)
		}
		if again := rankOfPairs(t, x, shuffled(s, list)); again != rank {
			t.Fatalf("RankOfPairs of %v and %v = %d, and in another order %d", x, list, rank, again)
		}
	})
}

// TestRankOfPairsOfAllRanks has lists without free pairs, and each of them behind the same list.
func TestRankOfPairsOfAllRanks(t *testing.T) {
	s := &sequence{}
	for _, p := range primes {
		x := frame(p, 3, 3, 3)
		list := somePairs(s, x, impl.MaxPairs)
		for rank := range impl.MaxPairs + 1 {
			wantSame(t, "RankOfPairs", rankOfPairs(t, x, list[:rank]), int64(rank))
			twice := atMost(slices.Concat(list[:rank], multiplesOf(s, p, list[:rank])))
			wantSame(t, "RankOfPairs of pairs and multiples", rankOfPairs(t, x, twice), int64(rank))
		}
	}
}

// pairExamples have sizes and pairs, their rank, and the text of the completed scheme, all found by hand.
var pairExamples = []struct {
	p, n, m, k int64
	pairs      string
	rank       int64
	text       string
}{
	{2, 1, 1, 1, "1 1", 1, "2:1x1x1;1*1*1"},
	{3, 1, 1, 1, "1 1; 2 1; 1 2", 1, "3:1x1x1;1*1*1"},
	{3, 1, 1, 1, "2 1", 1, "3:1x1x1;2*1*2"},
	{3, 1, 1, 1, "2 2; 1 1", 1, "3:1x1x1;2*2*1"},
	{5, 1, 1, 1, "2 1", 1, "5:1x1x1;2*1*3"},
	{5, 1, 1, 1, "3 3; 4 4; 1 1", 1, "5:1x1x1;3*3*4"},
	{2, 1, 2, 1, "10 10; 01 01", 2, "2:1x2x1;10*10*1+01*01*1"},
	{2, 1, 2, 1, "10 10; 01 01; 11 11", 3, "2:1x2x1;10*10*1+01*01*1"},
	{2, 1, 2, 1, "10 10; 10 10; 01 01; 10 01", 3, "2:1x2x1;10*10*1+01*01*1"},
	{2, 1, 2, 1, "10 01; 11 10; 01 11", 3, "2:1x2x1;11*10*1+01*11*1"},
	{2, 1, 2, 1, "10 10; 10 01; 10 11; 01 01", 3, "2:1x2x1;10*10*1+01*01*1"},
	{2, 1, 2, 1, "10 11; 10 01; 10 10; 01 01", 3, "2:1x2x1;10*11*1+10*01*1+01*01*1"},
	{3, 1, 2, 1, "11 11; 12 12", 2, "3:1x2x1;11*11*2+12*12*2"},
	{2, 2, 1, 2, "10 10; 01 01; 11 11; 10 01", 4, "2:2x1x2;10*10*1010+01*01*0011+11*11*0010+10*01*0110"},
	{3, 1, 1, 2, "1 12; 2 11", 2, "3:1x1x2;1*12*21+2*11*11"},
	{5, 3, 1, 1, "100 2; 010 1; 001 4", 3, "5:3x1x1;100*2*300+010*1*010+001*4*004"},
	{2, 1, 2, 1, "10 10; 11 11", 2, ""},
	{2, 1, 2, 1, "10 10; 10 01; 01 10", 3, ""},
	{3, 1, 1, 3, "1 100; 2 010; 1 120", 2, ""},
}

func TestPairExamples(t *testing.T) {
	for _, example := range pairExamples {
		x, list := frame(example.p, example.n, example.m, example.k), makePairs(example.p, example.pairs)
		wantSame(t, fmt.Sprint("RankOfPairs of ", list), rankOfPairs(t, x, list), example.rank)
		made, can := completed(t, x, list)
		wantSame(t, fmt.Sprint("can be completed: ", list), can, example.text != "")
		if can {
			wantText(t, fmt.Sprint("CompletePairs of ", list), made, example.text)
		}
	}
}

// TestPairsThatAreLeftOut has pairs that are not free, but whose numbers are all 0, in front, between and behind.
func TestPairsThatAreLeftOut(t *testing.T) {
	s := &sequence{}
	eachSize(func(p, n, m, k int64) {
		x := expectStandard(p, n, m, k)
		own := expectPairsOf(x)
		for range 5 {
			extra := somePairs(s, x, impl.MaxPairs-len(own))
			list := slices.Clone(own)
			var want []impl.Product
			want = append(want, x.Products...)
			for _, q := range extra {
				at := s.below(int64(len(list)) + 1)
				if more := slices.Insert(slices.Clone(list), int(at), q); rankOfPairs(t, x, more) == int64(len(more)) {
					list = more
				}
			}
			made, can := completed(t, x, list)
			wantSame(t, "can be completed", can, true)
			x.Products = want
			wantScheme(t, fmt.Sprint("CompletePairs of ", list), x, made, x)
		}
	})
}

// TestFreePairsAreLeftOut has pairs twice, and multiples of them: the first one of each is taken.
func TestFreePairsAreLeftOut(t *testing.T) {
	s := &sequence{}
	eachSize(func(p, n, m, k int64) {
		x := expectStandard(p, n, m, k)
		own := expectPairsOf(x)
		list := atMost(slices.Concat(own, multiplesOf(s, p, own), own))
		made, can := completed(t, x, list)
		wantSame(t, "can be completed", can, true)
		wantScheme(t, "CompletePairs of pairs and multiples", x, made, x)
		wantSame(t, "RankOfPairs of pairs and multiples", rankOfPairs(t, x, list), n*m*k)
	})
}

// TestPairsOfNothing has the empty list, which is nil or not.
func TestPairsOfNothing(t *testing.T) {
	eachSize(func(p, n, m, k int64) {
		for _, list := range [][]impl.Pair{nil, {}, make([]impl.Pair, 0, 5)} {
			made, code := impl.CompletePairs(p, n, m, k, list)
			wantError(t, "CompletePairs of nothing", made, code, impl.ErrNotFound)
			wantSame(t, "RankOfPairs of nothing", rankOfPairs(t, frame(p, n, m, k), list), int64(0))
		}
		x := frame(p, n, m, k)
		wantSame(t, "PairsOf nothing", len(pairsOf(t, x)), 0)
		wantSame(t, "NeedlessProducts of nothing", len(needlessOf(t, x)), 0)
		wantScheme(t, "MergeScheme", x, merged(t, x), x)
		for _, steps := range []int64{0, 1, impl.MaxStroll} {
			wantScheme(t, "WalkScheme", x, walked(t, x, 77, steps), x)
		}
	})
}

func TestPairsOf(t *testing.T) {
	eachSchemeToSearch(func(s *sequence, x impl.Scheme) { pairsOf(t, x) })
}

func TestNeedlessProducts(t *testing.T) {
	some, none := 0, 0
	eachSchemeToSearch(func(s *sequence, x impl.Scheme) {
		if s.below(int64(1+len(x.Products))) > 2 { // few of the long ones, which take long
			return
		}
		if len(needlessOf(t, x)) > 0 {
			some++
		} else {
			none++
		}
	})
	if some < 300 || none < 300 {
		t.Fatalf("%d schemes with needless products, and %d without", some, none)
	}
}

// TestNeedlessProductsByTrying leaves each product out, and tries all lists of numbers for the others.
func TestNeedlessProductsByTrying(t *testing.T) {
	eachShortList(func(s *sequence, x impl.Scheme, list []impl.Pair) {
		var want []int64
		for i, q := range list {
			if _, can := completedByTrying(x, slices.Delete(slices.Clone(list), i, i+1)); can {
				want = append(want, int64(i))
			}
			x.Products = append(x.Products, impl.Product{A: q.A, B: q.B, C: someForm(s, x.Prime, x.Rows*x.Cols)})
		}
		needless, code := impl.NeedlessProducts(x)
		wantList(t, fmt.Sprint("NeedlessProducts of ", x), needless, code, want)
	})
}

// TestNeedlessProductsAsTexts has schemes that are not correct, too. The lists were found by hand.
func TestNeedlessProductsAsTexts(t *testing.T) {
	for text, want := range map[string][]int64{
		"3:1x1x1;1*1*1":                           nil,
		"3:1x1x1;1*1*2+2*1*1":                     {0, 1},
		"2:1x1x1;1*1*1+1*1*1+1*1*1":               {0, 1, 2},
		"2:1x2x1;10*10*1+01*01*1+11*11*1":         {2},
		"2:1x2x1;11*11*1+10*10*1+01*01*1":         {0},
		"2:1x2x1;10*10*1+10*10*1+01*01*1":         {0, 1},
		"2:1x2x1;10*10*1+10*01*1+01*10*1":         nil,
		"2:1x2x1;10*10*1+10*11*1+10*01*1+01*01*1": {0, 1, 2},
		"5:2x1x1;":                                    nil,
		"3:1x1x2;1*10*10+1*01*01+2*11*22":             {0, 1, 2},
		"3:1x1x2;1*10*10+1*01*01+2*20*22":             {0, 2},
		"2:1x2x1;10*11*1+01*01*1+10*01*1+10*10*1":     {0, 2, 3},
		"5:1x1x1;1*1*1+2*1*4+3*4*1+4*4*4+1*3*2+2*2*2": {0, 1, 2, 3, 4, 5},
	} {
		needless, code := impl.NeedlessProducts(parsed(t, text))
		wantList(t, "NeedlessProducts of "+text, needless, code, want)
	}
}

// TestNeedlessProductsCanBeLeftOut completes the others, where this can be done.
func TestNeedlessProductsCanBeLeftOut(t *testing.T) {
	eachCorrectMoved(func(s *sequence, x impl.Scheme) {
		if s.below(int64(1+len(x.Products))) > 5 { // few of the long ones, which take long
			return
		}
		needless, code := impl.NeedlessProducts(x)
		wantCode(t, "NeedlessProducts", code, impl.ErrNone)
		i := s.below(int64(len(x.Products)))
		less, code := impl.WithoutProduct(x, i)
		wantCode(t, "WithoutProduct", code, impl.ErrNone)
		made, can := completed(t, x, expectPairsOf(less))
		if can != slices.Contains(needless, i) {
			t.Fatalf("NeedlessProducts of %v = %v, but without %d: %v", x, needless, i, can)
		}
		if can {
			wantRight(t, "CompletePairs without a needless product", made)
		}
	})
}

// TestMergeSchemeAsTexts has texts written by hand.
func TestMergeSchemeAsTexts(t *testing.T) {
	for _, example := range [][2]string{
		{"3:1x2x2;10*1000*10+10*1000*11", "3:1x2x2;10*1000*21"},
		{"3:1x2x2;10*1000*12+10*0200*12", "3:1x2x2;10*1200*12"},
		{"3:1x2x2;10*1000*12+12*1000*12", "3:1x2x2;22*1000*12"},
		{"3:1x2x2;10*1000*10+10*1000*20+01*0001*11", "3:1x2x2;01*0001*11"},
		{"3:1x2x2;01*0001*11+10*1000*10+01*0010*10+10*2000*10", "3:1x2x2;01*0001*11+01*0010*10"},
		{"5:1x1x1;1*1*1+1*1*1+1*1*1", "5:1x1x1;1*1*3"},
		{"2:1x1x1;1*1*1+1*1*1", "2:1x1x1;"},
		{"2:1x1x1;1*1*1+1*1*1+1*1*1", "2:1x1x1;1*1*1"},
		{"3:1x1x1;1*2*2+1*2*2", "3:1x1x1;1*2*1"},
		{"3:1x1x1;1*1*1+2*2*2", "3:1x1x1;1*1*1+2*2*2"},
		{"5:1x1x2;1*10*12+2*20*12", "5:1x1x2;1*10*12+2*20*12"},
		{"5:1x1x2;1*12*12+2*12*12+1*12*11", "5:1x1x2;3*12*12+1*12*11"},
		{"5:1x1x2;1*12*10+2*12*12+1*12*02", "5:1x1x2;3*12*12"},
		{"5:1x1x2;2*12*12+1*12*10+1*12*02+2*11*12+1*12*40", "5:1x1x2;2*23*12+1*12*02"},
		{"5:1x2x1;10*12*3+10*13*3+10*12*4+01*11*1", "5:1x2x1;10*20*3+10*12*4+01*11*1"},
		{"2:1x2x2;10*1000*10+01*0100*01+10*0100*10+10*1100*11", "2:1x2x2;10*1100*01+01*0100*01"},
		{"3:2x1x1;12*1*21+12*2*21+12*1*10", "3:2x1x1;12*1*10"},
		{"5:3x1x2;", "5:3x1x2;"},
	} {
		wantMovedText(t, "MergeScheme of "+example[0], merged(t, parsed(t, example[0])), impl.ErrNone, example[1])
	}
}

// TestMergedAlikes has many products that are alike, so that most merges are followed by others.
func TestMergedAlikes(t *testing.T) {
	s := &sequence{}
	ways := [3]int{}
	eachSize(func(p, n, m, k int64) {
		for _, products := range []int{2, 3, 5, 9, 17, impl.MaxProducts} {
			x := alikeScheme(s, p, n, m, k, products)
			merged(t, x)
			if _, j, third := firstMerge(x); j > 0 {
				ways[third]++
			}
		}
	})
	if min(ways[0], ways[1], ways[2]) < 30 {
		t.Fatalf("the third form was A, B and C only so often: %v", ways)
	}
}

// TestMergesOfThreeEqualForms tests that C counts as the third form.
func TestMergesOfThreeEqualForms(t *testing.T) {
	s := &sequence{}
	eachSize(func(p, n, m, k int64) {
		q := someProduct(s, p, n, m, k)
		for products := range impl.MaxProducts + 1 {
			x := frame(p, n, m, k)
			x.Products = slices.Repeat([]impl.Product{q}, products)
			want := frame(p, n, m, k)
			if sum := times(p, int64(products)%p, q.C); sum != (impl.Form{}) {
				want.Products = []impl.Product{{A: q.A, B: q.B, C: sum}}
			}
			wantScheme(t, "MergeScheme", x, merged(t, x), want)
		}
	})
}

// TestNumbersOfSeeds has the first numbers behind the seed 1, and the number 10000, as they are known elsewhere.
func TestNumbersOfSeeds(t *testing.T) {
	wantSame(t, "the numbers behind 1", numbersBehind(1, 6), []int64{48271, 182605794, 1291394886, 1914720637, 2078669041, 407355683})
	wantSame(t, "the number 10000 behind 1", numbersBehind(1, 10000)[9999], int64(399268537))
	wantSame(t, "the number behind 2147483646", numbersBehind(2147483646, 1), []int64{2147483647 - 48271})
}

// walkExamples have a scheme, a seed and steps, and the text of what arises. The numbers u, v and w of their steps
// are written behind them.
var walkExamples = []struct {
	text        string
	seed, steps int64
	want        string
}{
	// 48271, 182605794 and 1291394886: i is 1, j is 0, and the first form is A.
	{"2:1x2x2;10*1000*10+10*0100*01", 1, 1, "2:1x2x2;10*1000*11+10*1100*01"},
	{"3:1x2x2;10*1000*10+10*0100*01", 1, 1, "3:1x2x2;10*1000*12+10*1100*01"},
	{"3:1x2x2;12*1000*10+10*0100*01", 1, 1, "3:1x2x2;12*1000*10+10*0100*01"},
	{"3:1x2x2;12*1000*10+10*1000*10", 1, 1, "3:1x2x2;12*1000*10+10*1000*10"},
	{"2:1x2x2;10*1000*01+10*0100*01", 1, 1, "2:1x2x2;10*1100*01"},
	{"3:1x2x2;10*2010*21+10*1020*21+01*1000*11", 1, 0, "3:1x2x2;10*2010*21+10*1020*21+01*1000*11"},
	{"5:1x2x2;10*1000*12+10*4000*12", 1, 1, "5:1x2x2;"},
	// 1914720637, 2078669041 and 407355683 follow: i and j are 1.
	{"2:1x2x2;10*1000*10+10*0100*01", 1, 2, "2:1x2x2;10*1000*11+10*1100*01"},
	// 96542, 365211588 and 435306125: i and j are 0.
	{"2:1x2x2;10*1000*10+10*0100*01", 2, 1, "2:1x2x2;10*1000*10+10*0100*01"},
	// 2147435376, 1964877853 and 856088761: i is 0, j is 1, and the first form is B.
	{"5:1x2x2;10*1234*14+02*1234*31", 2147483646, 1, "5:1x2x2;10*1234*40+42*1234*31"},
}

func TestWalksWithSeedsAsTexts(t *testing.T) {
	for _, example := range walkExamples {
		made := walked(t, parsed(t, example.text), example.seed, example.steps)
		wantMovedText(t, fmt.Sprint("WalkScheme of ", example), made, impl.ErrNone, example.want)
	}
}

// TestWalks walks from schemes of all kinds with the least and the greatest seeds and others.
func TestWalks(t *testing.T) {
	eachSchemeToSearch(func(s *sequence, x impl.Scheme) {
		walked(t, x, someSeeds[s.below(int64(len(someSeeds)))], someSteps(s))
	})
}

// TestSteps has schemes in which all products have equal forms, so that each step with different products changes
// the scheme: all three first forms, and all pairs of products.
func TestSteps(t *testing.T) {
	s := &sequence{}
	seen := map[[3]int64]bool{}
	for _, p := range primes {
		for range 400 {
			x, seed := frame(p, 2, 2, 2), someSeed(s)
			q := someProduct(s, p, 2, 2, 2)
			numbers := numbersBehind(seed, 3)
			for range 4 {
				other := someProduct(s, p, 2, 2, 2)
				*factor(&other, int(numbers[2]%3)) = *factor(&q, int(numbers[2]%3))
				x.Products = append(x.Products, other)
			}
			made := walked(t, x, seed, 1)
			step := [3]int64{numbers[0] % 4, numbers[1] % 4, numbers[2] % 3}
			wantSame(t, fmt.Sprint("a step changes nothing: ", step), sameScheme(made, x), step[0] == step[1])
			seen[step] = true
		}
	}
	wantSame(t, "steps that were seen", len(seen), 4*4*3)
}

func TestAllPairs(t *testing.T) {
	eachSearched(func(n, m, k int64) {
		list, code := impl.AllPairs(n, m, k)
		want := expectAllPairs(n, m, k)
		if code != impl.ErrNone || !slices.Equal(list, want) {
			t.Fatalf("AllPairs of %d, %d and %d = %v, %d, want %v", n, m, k, list, code, want)
		}
		wantSame(t, "how many pairs", int64(len(list)), (power(2, n*m)-1)*(power(2, m*k)-1))
		for _, q := range list {
			wantSame(t, "is a pair", expectPair(frame(2, n, m, k), q), true)
		}
	})
}

// TestAllPairsByHand has the order of the texts.
func TestAllPairsByHand(t *testing.T) {
	for _, example := range []struct {
		n, m, k int64
		pairs   string
	}{
		{1, 1, 1, "1 1"},
		{1, 1, 2, "1 01; 1 10; 1 11"},
		{2, 1, 1, "01 1; 10 1; 11 1"},
		{1, 1, 3, "1 001; 1 010; 1 011; 1 100; 1 101; 1 110; 1 111"},
		{1, 2, 1, "01 01; 01 10; 01 11; 10 01; 10 10; 10 11; 11 01; 11 10; 11 11"},
	} {
		list, code := impl.AllPairs(example.n, example.m, example.k)
		wantCode(t, "AllPairs", code, impl.ErrNone)
		wantSame(t, fmt.Sprint("AllPairs of ", example.n, example.m, example.k), list, makePairs(2, example.pairs))
	}
}

func TestLeastNumberExample(t *testing.T) {
	least, code := impl.LeastNumber(1, 2, 1)
	wantCode(t, "LeastNumber", code, impl.ErrNone)
	wantSame(t, "LeastNumber of 1, 2 and 1", least, int64(2))
}

// TestLeastNumbersByTrying tries all sets of fewer pairs, and of as many. (A list with a pair twice has the sums of
// one that is shorter.)
func TestLeastNumbersByTrying(t *testing.T) {
	eachSearched(func(n, m, k int64) {
		least, code := impl.LeastNumber(n, m, k)
		wantCode(t, "LeastNumber", code, impl.ErrNone)
		for r := range least {
			_, completed := expectSets(n, m, k, r)
			wantSame(t, fmt.Sprint("sets of ", r, " pairs for ", n, m, k), completed, int64(0))
		}
		_, can := completed(t, frame(2, n, m, k), expectPairsOf(expectStandard(2, n, m, k)))
		wantSame(t, "the pairs of the standard scheme can be completed", can && least == n*m*k, true)
	})
}

func TestCountPairSets(t *testing.T) {
	greatest := int64(0)
	eachSearched(func(n, m, k int64) {
		for r := range int64(5) {
			made, code := impl.CountPairSets(n, m, k, r)
			all, want := expectSets(n, m, k, r)
			if all > impl.MaxSets {
				wantError(t, fmt.Sprint("CountPairSets of ", n, m, k, r), made, code, impl.ErrLimit)
				continue
			}
			greatest = max(greatest, all)
			wantCode(t, "CountPairSets", code, impl.ErrNone)
			wantSame(t, fmt.Sprint("CountPairSets of ", n, m, k, r), made, want)
			if r < n*m*k {
				wantSame(t, "sets of fewer pairs than the least number", made, int64(0))
			}
		}
	})
	wantSame(t, "the most sets", greatest, int64(18424))
}

// TestCountPairSetsByHand has counts that were found by hand. For 3, 1 and 1 there are 7 pairs, and 35 sets of three;
// 7 of them lie in a plane, and are too few. For 1, 2 and 1 the forms A of two pairs have to be a base, and the forms B
// the one that is dual to it, so that there are as many sets as bases; so it is for 1, 3 and 1, and three pairs.
func TestCountPairSetsByHand(t *testing.T) {
	for _, example := range [][5]int64{
		{1, 1, 1, 0, 0}, {1, 1, 1, 1, 1}, {1, 1, 1, 2, 0}, {1, 1, 1, 4, 0},
		{1, 1, 2, 0, 0}, {1, 1, 2, 1, 0}, {1, 1, 2, 2, 3}, {1, 1, 2, 3, 1}, {2, 1, 1, 3, 1}, {1, 1, 2, 4, 0},
		{3, 1, 1, 3, 28}, {1, 1, 3, 3, 28}, {3, 1, 1, 4, 35}, {3, 1, 1, 2, 0},
		{1, 2, 1, 1, 0}, {1, 2, 1, 2, 3}, {1, 3, 1, 3, 28}, {1, 3, 1, 2, 0},
	} {
		made, code := impl.CountPairSets(example[0], example[1], example[2], example[3])
		wantCode(t, "CountPairSets", code, impl.ErrNone)
		wantSame(t, fmt.Sprint("CountPairSets of ", example[:4]), made, example[4])
	}
}
