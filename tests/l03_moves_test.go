package tests

import (
	"fmt"
	"testing"

	"loop.example/g01262/impl"
)

// parsed returns the scheme with a text.
func parsed(t *testing.T, text string) impl.Scheme {
	t.Helper()
	x, code := impl.ParseScheme(text)
	wantCode(t, fmt.Sprintf("ParseScheme(%q)", text), code, impl.ErrNone)
	return x
}

// wantMovedText tests that a move returned the scheme with a text.
func wantMovedText(t *testing.T, what string, made impl.Scheme, code int64, want string) {
	t.Helper()
	wantCode(t, what, code, impl.ErrNone)
	wantText(t, what, made, want)
}

// The texts of this file were written by hand.

func TestNormalProductsAsTexts(t *testing.T) {
	for _, example := range [][2]string{
		{"5:1x1x1;4*3*2", "5:1x1x1;1*1*4"},
		{"5:1x2x1;02*34*1", "5:1x2x1;01*13*1"},
		{"3:1x2x2;21*0212*12", "3:1x2x2;12*0121*12"},
		{"3:1x2x2;01*0212*12", "3:1x2x2;01*0121*21"},
		{"3:1x2x2;20*0012*12", "3:1x2x2;10*0012*21"},
		{"3:1x1x1;1*1*2+2*1*1+1*1*2", "3:1x1x1;1*1*2+1*1*2+1*1*2"},
		{"2:1x2x2;01*0011*01+11*1000*11", "2:1x2x2;01*0011*01+11*1000*11"},
		{"5:3x1x2;", "5:3x1x2;"},
	} {
		made, code := impl.NormalProducts(parsed(t, example[0]))
		wantMovedText(t, "NormalProducts of "+example[0], made, code, example[1])
	}
}

// flipExample has a scheme, the products, the factor and the number of a flip, and what arises.
type flipExample struct {
	text       string
	i, k, f, s int64
	want       string
}

func wantFlip(t *testing.T, example flipExample) {
	t.Helper()
	made, code := impl.FlipProducts(parsed(t, example.text), example.i, example.k, example.f, example.s)
	wantMovedText(t, fmt.Sprint("FlipProducts of ", example), made, code, example.want)
}

func TestFlipsAsTexts(t *testing.T) {
	first, second := "3:1x2x2;12*1000*10+12*0120*21", "3:1x2x2;10*0120*12+01*0120*01"
	for _, example := range []flipExample{
		{first, 0, 1, 0, 1, "3:1x2x2;12*1120*10+12*0120*11"},
		{first, 0, 1, 0, 2, "3:1x2x2;12*1210*10+12*0120*01"},
		{first, 1, 0, 0, 1, "3:1x2x2;12*1000*22+12*1120*21"},
		{second, 0, 1, 1, 1, "3:1x2x2;10*0120*10+21*0120*01"},
		{second, 0, 1, 1, 2, "3:1x2x2;10*0120*11+11*0120*01"},
		{"5:1x2x2;12*1000*34+30*0400*34", 1, 0, 2, 3, "5:1x2x2;12*1300*34+11*0400*34"},
		{"3:1x1x1;1*1*1+1*1*2", 0, 1, 0, 1, "3:1x1x1;1*2*1+1*1*1"},
	} {
		wantFlip(t, example)
	}
}

// TestFlipsThatLeaveOut tests a first changed factor that becomes 0, a second one, and both, with
// other products between and behind.
func TestFlipsThatLeaveOut(t *testing.T) {
	atFirst := "2:1x2x2;10*1000*10+10*1000*11+01*0001*11"
	atSecond := "2:1x2x2;10*1000*10+10*0100*10+01*0001*11"
	both := "2:1x2x2;01*0001*11+10*1000*10+10*0111*01+10*1000*10+11*0001*11"
	for _, example := range []flipExample{
		{atFirst, 0, 1, 0, 1, "2:1x2x2;10*1000*01+01*0001*11"},
		{atFirst, 1, 0, 0, 1, "2:1x2x2;10*1000*01+01*0001*11"},
		{atSecond, 0, 1, 0, 1, "2:1x2x2;10*1100*10+01*0001*11"},
		{atSecond, 1, 0, 0, 1, "2:1x2x2;10*1100*10+01*0001*11"},
		{both, 1, 3, 0, 1, "2:1x2x2;01*0001*11+10*0111*01+11*0001*11"},
		{both, 3, 1, 1, 1, "2:1x2x2;01*0001*11+10*0111*01+11*0001*11"},
		{both, 1, 3, 2, 1, "2:1x2x2;01*0001*11+10*0111*01+11*0001*11"},
		{"3:1x1x1;1*1*1+1*1*2", 0, 1, 0, 2, "3:1x1x1;"},
		{"3:1x1x1;1*1*1+1*1*2+2*2*2", 1, 0, 0, 2, "3:1x1x1;2*2*2"},
	} {
		wantFlip(t, example)
	}
}

func TestFlipsOfAsLists(t *testing.T) {
	for text, want := range map[string][][]int64{
		"3:1x2x2;10*1000*10+10*1000*20+20*0100*10": {{0, 1, 0}, {0, 1, 1}, {0, 2, 2}, {1, 0, 0}, {1, 0, 1}, {2, 0, 2}},
		"2:1x2x2;10*1000*10+10*0100*01+01*0100*11": {{0, 1, 0}, {1, 0, 0}, {1, 2, 1}, {2, 1, 1}},
		"2:1x1x1;1*1*1+1*1*1":                      {{0, 1, 0}, {0, 1, 1}, {0, 1, 2}, {1, 0, 0}, {1, 0, 1}, {1, 0, 2}},
		"3:1x1x1;1*1*1+2*2*2":                      nil,
		"5:1x1x1;1*2*3":                            nil,
		"5:3x3x3;":                                 nil,
	} {
		flips, code := impl.FlipsOf(parsed(t, text))
		wantCode(t, "FlipsOf "+text, code, impl.ErrNone)
		wantSame(t, "FlipsOf "+text, flips, want)
	}
}

func TestFlipsOfStandardSchemes(t *testing.T) {
	eachSize(func(p, n, m, k int64) {
		flips, code := impl.FlipsOf(expectStandard(p, n, m, k))
		wantCode(t, "FlipsOf", code, impl.ErrNone)
		// A form for one entry is shared by as many products as the third size tells.
		wantSame(t, "flips of a standard scheme", int64(len(flips)), n*m*k*(n+m+k-3))
	})
}

// TestFlipsOfEqualProducts lists the most flips that there may be.
func TestFlipsOfEqualProducts(t *testing.T) {
	x := impl.Scheme{Prime: 2, Rows: 1, Inner: 1, Cols: 1}
	for len(x.Products) < impl.MaxProducts {
		x.Products = append(x.Products, impl.Product{A: impl.Form{1}, B: impl.Form{1}, C: impl.Form{1}})
	}
	flips, code := impl.FlipsOf(x)
	wantCode(t, "FlipsOf", code, impl.ErrNone)
	wantSame(t, "flips of 30 equal products", len(flips), 30*29*3)
}

// TestFlipsOfAnySchemes tests that exactly the listed flips can be made.
func TestFlipsOfAnySchemes(t *testing.T) {
	eachSchemeToMove(func(s *sequence, x impl.Scheme) {
		flips, code := impl.FlipsOf(x)
		wantCode(t, "FlipsOf", code, impl.ErrNone)
		wantSame(t, fmt.Sprint("FlipsOf ", x), flips, expectFlips(x))
		count := int64(len(x.Products))
		for at := range count * count * 3 {
			i, k, f := at/(count*3), at/3%count, at%3
			made, code := impl.FlipProducts(x, i, k, f, x.Prime-1)
			if len(flips) > 0 && fmt.Sprint(flips[0]) == fmt.Sprint([]int64{i, k, f}) {
				wantCode(t, "FlipProducts", code, impl.ErrNone)
				flips = flips[1:]
				continue
			}
			wantError(t, "FlipProducts", made, code, impl.ErrState)
		}
		wantSame(t, "flips that could not be made", len(flips), 0)
	})
}

func TestWalksAsTexts(t *testing.T) {
	x := "2:1x2x2;10*1000*10+10*0100*01+01*0100*11"
	for _, example := range []struct {
		text    string
		numbers []int64
		want    string
	}{
		{x, nil, x},
		{x, []int64{}, x},
		{x, []int64{0}, "2:1x2x2;10*1100*10+10*0100*11+01*0100*11"},
		{x, []int64{4}, "2:1x2x2;10*1100*10+10*0100*11+01*0100*11"},
		{x, []int64{6}, "2:1x2x2;10*1000*10+10*0100*10+11*0100*11"},
		{x, []int64{6, 5}, "2:1x2x2;10*1000*10+01*0100*10+11*0100*01"},
		{x, []int64{1<<63 - 1}, "2:1x2x2;10*1000*10+11*0100*01+01*0100*10"},
		{"3:1x1x1;1*1*1+1*1*2", []int64{0}, "3:1x1x1;1*2*1+1*1*1"},
		{"2:1x1x1;1*1*1+1*1*1+1*1*1", []int64{0, 5, 1<<63 - 1}, "2:1x1x1;1*1*1"},
		{"2:1x1x1;1*1*1+1*1*1", []int64{3, 1, 2}, "2:1x1x1;"},
		{"3:1x1x1;1*1*1+2*2*2", []int64{0, 1, 2, 1<<63 - 1}, "3:1x1x1;1*1*1+2*2*2"},
		{"5:1x2x3;", []int64{0, 1}, "5:1x2x3;"},
	} {
		made, code := impl.WalkFlips(parsed(t, example.text), example.numbers)
		wantMovedText(t, fmt.Sprint("WalkFlips of ", example), made, code, example.want)
	}
}

// TestLongWalks takes exactly MaxFlips numbers, small ones and very great ones.
func TestLongWalks(t *testing.T) {
	s := &sequence{}
	for _, p := range primes {
		for _, x := range []impl.Scheme{expectStandard(p, 3, 3, 3), strassen(p), expectStandard(p, 2, 2, 2), alikeScheme(s, p, 2, 1, 2, 30)} {
			numbers := someNumbers(s, impl.MaxFlips)
			for at := range numbers {
				numbers[at] = []int64{numbers[at], numbers[at] % 9, 1<<63 - 1 - numbers[at]}[at%3]
			}
			made, code := impl.WalkFlips(x, numbers)
			wantMoved(t, "WalkFlips", x, made, code, expectWalk(x, numbers), expectSums(x))
		}
	}
}

// TestWalksOneByOne tests that a walk is the flips of FlipsOf by 1, one after the other.
func TestWalksOneByOne(t *testing.T) {
	s := &sequence{}
	eachSize(func(p, n, m, k int64) {
		x := alikeScheme(s, p, n, m, k, 6)
		numbers := someNumbers(s, 12)
		y := x
		for _, number := range numbers {
			flips := first(impl.FlipsOf(y))
			if len(flips) > 0 {
				flip := flips[number%int64(len(flips))]
				y = first(impl.FlipProducts(y, flip[0], flip[1], flip[2], 1))
			}
		}
		made, code := impl.WalkFlips(x, numbers)
		wantCode(t, "WalkFlips", code, impl.ErrNone)
		wantSame(t, fmt.Sprint("WalkFlips of ", x, numbers), made, y)
	})
}

// TestReductionsAsTexts tests each case of a reduction, and which pair is the first one.
func TestReductionsAsTexts(t *testing.T) {
	for _, example := range []struct{ name, text, want string }{
		{"A and B equal", "3:2x1x2;10*12*1000+10*12*0200", "3:2x1x2;10*12*1200"},
		{"A and C equal", "3:2x1x2;10*10*1200+10*01*1200", "3:2x1x2;10*11*1200"},
		{"A equal, C parallel", "3:2x1x2;10*10*1200+10*01*2100", "3:2x1x2;10*12*1200"},
		{"A equal, C parallel by 3", "5:2x1x2;10*10*1200+10*01*3100", "5:2x1x2;10*13*1200"},
		{"B and C equal", "3:2x1x2;10*12*1000+01*12*1000", "3:2x1x2;11*12*1000"},
		{"B equal, C parallel", "3:2x1x2;10*12*1000+01*12*2000", "3:2x1x2;12*12*1000"},
		{"A parallel at first", "5:2x1x2;30*10*1000+20*10*0100", "5:2x1x2;10*10*3200"},
		{"B parallel at first", "5:2x1x2;10*03*1000+10*04*0100", "5:2x1x2;10*01*3400"},
		{"A, B and C parallel", "5:1x2x1;12*10*1+12*10*3", "5:1x2x1;12*10*4"},
		{"A, B and C parallel, and 0 together", "5:1x2x1;24*30*1+12*10*4", "5:1x2x1;"},
		{"A alone parallel", "3:2x1x2;10*10*1000+20*01*0100", "3:2x1x2;10*10*1000+10*01*0200"},
		{"C alone parallel", "3:2x1x2;10*10*1000+01*01*2000", "3:2x1x2;10*10*1000+01*01*2000"},
		{"A made normal again", "3:2x1x1;11*1*11+12*1*11", "3:2x1x1;10*1*22"},
		{"B made normal again", "5:1x1x2;1*12*31+1*14*24", "5:1x1x2;1*01*43"},
		{"C 0 in the middle", "3:1x1x2;1*11*01+1*10*12+1*01*10+1*10*21", "3:1x1x2;1*11*01+1*01*10"},
		{"the same four times", "5:1x1x1;1*1*1+1*1*1+1*1*1+1*1*1", "5:1x1x1;1*1*4"},
		{"the same three times for 3", "3:1x1x1;1*1*1+1*1*1+1*1*1", "3:1x1x1;"},
		{"the same three times for 2", "2:1x1x1;1*1*1+1*1*1+1*1*1", "2:1x1x1;1*1*1"},
		{"no products", "2:3x2x1;", "2:3x2x1;"},
		{"nothing but normal products", "3:1x2x1;20*02*1+01*10*1", "3:1x2x1;10*01*1+01*10*1"},
		{"the first i first", "3:2x1x2;10*10*1200+10*01*1000+10*01*0200+10*10*0010", "3:2x1x2;10*10*1210+10*01*1200"},
		{"the first k first, A and B", "3:2x1x2;10*10*1000+10*10*0100+10*01*1000", "3:2x1x2;10*10*1100+10*01*1000"},
		{"the first k first, A and C", "3:2x1x2;10*10*1000+10*01*1000+10*10*0100", "3:2x1x2;10*11*1000+10*10*0100"},
		{"begun anew ahead", "3:2x1x2;10*10*1200+10*01*1000+10*01*0200", "3:2x1x2;10*11*1200"},
		{"begun anew between", "3:2x1x2;10*10*1000+01*10*0100+10*11*0010+10*10*0200+10*01*0010", "3:2x1x2;10*10*1200+01*10*0100+10*12*0010"},
	} {
		made, code := impl.ReduceScheme(parsed(t, example.text))
		wantMovedText(t, "ReduceScheme: "+example.name, made, code, example.want)
		wantSame(t, "expected: "+example.name, expectReduced(parsed(t, example.text)), made)
	}
}

// TestReductionsOfFullSchemes reduces schemes with MaxProducts products.
func TestReductionsOfFullSchemes(t *testing.T) {
	s := &sequence{}
	eachSize(func(p, n, m, k int64) {
		wantReduced(t, alikeScheme(s, p, n, m, k, impl.MaxProducts))
		wantReduced(t, someScheme(s, p, n, m, k, impl.MaxProducts))
	})
}

func TestReductionsOfKnownSchemes(t *testing.T) {
	for _, p := range primes {
		for _, x := range []impl.Scheme{strassen(p), winograd(p), expectStandard(p, 2, 2, 2)} {
			made, code := impl.ReduceScheme(x)
			wantCode(t, "ReduceScheme", code, impl.ErrNone)
			wantSame(t, fmt.Sprint("ReduceScheme of ", x), made, expectNormal(x))
		}
	}
}

func TestSplitsAsTexts(t *testing.T) {
	x := "3:1x2x2;12*1000*10+12*0120*21"
	for _, example := range []struct {
		text string
		i, f int64
		form string
		want string
	}{
		{x, 0, 0, "01", "3:1x2x2;01*1000*10+12*0120*21+11*1000*10"},
		{x, 0, 0, "21", "3:1x2x2;21*1000*10+12*0120*21+21*1000*10"},
		{x, 1, 1, "0020", "3:1x2x2;12*1000*10+12*0020*21+12*0100*21"},
		{x, 1, 2, "12", "3:1x2x2;12*1000*10+12*0120*12+12*0120*12"},
		{"5:1x1x1;1*1*1", 0, 1, "4", "5:1x1x1;1*4*1+1*2*1"},
	} {
		made, code := impl.SplitProduct(parsed(t, example.text), example.i, example.f, makeForm(2, example.form))
		wantMovedText(t, fmt.Sprint("SplitProduct of ", example), made, code, example.want)
	}
}

func TestPlusMovesAsTexts(t *testing.T) {
	x := "3:1x2x2;12*1000*10+01*0120*21"
	for _, example := range []struct {
		text string
		i, k int64
		want string
	}{
		{x, 0, 1, "3:1x2x2;11*1000*10+01*1000*01+01*2120*21"},
		{x, 1, 0, "3:1x2x2;12*0120*01+22*0120*21+12*1210*10"},
		{"2:1x1x2;1*10*11+1*11*10+1*01*01", 2, 0, "2:1x1x2;1*01*10+1*11*10+1*11*11"},
		{"2:1x2x1;10*10*1+01*10*1", 0, 1, "2:1x2x1;11*10*1"},
		{"2:1x2x1;10*10*1+01*01*1", 0, 1, "2:1x2x1;11*10*1+01*11*1"},
		{"2:1x1x1;1*1*1+1*1*1", 0, 1, "2:1x1x1;"},
		{"3:1x1x1;1*1*1+2*2*2+1*1*2", 2, 0, "3:1x1x1;2*2*2"},
		{"5:1x1x1;1*1*1+2*3*4", 0, 1, "5:1x1x1;4*1*1+2*2*4"},
	} {
		made, code := impl.PlusMove(parsed(t, example.text), example.i, example.k)
		wantMovedText(t, fmt.Sprint("PlusMove of ", example), made, code, example.want)
	}
}

// TestMovesUpToTheLimit makes schemes of exactly MaxProducts products.
func TestMovesUpToTheLimit(t *testing.T) {
	s := &sequence{}
	for _, p := range primes {
		x := someScheme(s, p, 3, 3, 3, impl.MaxProducts-1)
		form := someForm(s, p, 9)
		split, code := impl.SplitProduct(x, 28, 2, form)
		wantMoved(t, "SplitProduct", x, split, code, expectSplit(x, 28, 2, form), expectSums(x))
		plus, code := impl.PlusMove(x, 28, 0)
		wantMoved(t, "PlusMove", x, plus, code, expectPlus(x, 28, 0), expectSums(x))
		for _, full := range []impl.Scheme{split, expectNormal(split), alikeScheme(s, p, 2, 2, 2, impl.MaxProducts)} {
			normal, code := impl.NormalProducts(full)
			wantMoved(t, "NormalProducts", full, normal, code, expectNormal(full), expectSums(full))
			for _, flip := range expectFlips(full) {
				flipped, code := impl.FlipProducts(full, flip[0], flip[1], flip[2], 1)
				wantMoved(t, "FlipProducts", full, flipped, code, expectFlipped(full, flip[0], flip[1], flip[2], 1), expectSums(full))
			}
		}
	}
}

func TestEqualSchemesAsTexts(t *testing.T) {
	for _, example := range []struct {
		first, second string
		equal, sums   bool
	}{
		{"3:1x1x1;2*2*1", "3:1x1x1;1*2*2", true, true},
		{"3:1x1x1;2*2*1", "3:1x1x1;1*1*2", false, false},
		{"3:1x1x1;", "3:1x1x1;", true, true},
		{"3:1x1x1;", "3:1x1x1;1*1*1", false, false},
		{"3:1x1x1;", "3:1x1x1;1*1*1+1*1*2", false, true},
		{"5:1x2x1;10*01*2+01*10*3", "5:1x2x1;02*20*2+20*02*3", true, true},
		{"2:1x2x1;10*10*1+10*10*1+01*01*1", "2:1x2x1;10*10*1+01*01*1+01*01*1", false, false},
		{"2:1x2x1;10*10*1+10*10*1+01*01*1", "2:1x2x1;10*10*1+01*01*1", false, false},
		{"2:1x2x1;10*10*1+10*10*1+01*01*1", "2:1x2x1;10*10*1+01*01*1+10*10*1", true, true},
		{"2:1x2x1;10*10*1+10*10*1", "2:1x2x1;01*01*1+01*01*1", false, true},
		{"2:1x2x1;10*10*1+10*10*1+10*10*1+01*01*1", "2:1x2x1;01*01*1+01*01*1+01*01*1+10*10*1", false, true},
		{"2:1x2x1;10*11*1", "2:1x2x1;10*10*1+10*01*1", false, true},
		{"2:1x2x1;10*10*1", "2:1x2x1;10*01*1", false, false},
	} {
		for _, pair := range [][2]string{{example.first, example.second}, {example.second, example.first}} {
			equal, code := impl.AreEqualSchemes(parsed(t, pair[0]), parsed(t, pair[1]))
			wantCode(t, "AreEqualSchemes", code, impl.ErrNone)
			wantSame(t, fmt.Sprint("AreEqualSchemes of ", pair), equal, example.equal)
			sums, code := impl.HaveEqualSums(parsed(t, pair[0]), parsed(t, pair[1]))
			wantCode(t, "HaveEqualSums", code, impl.ErrNone)
			wantSame(t, fmt.Sprint("HaveEqualSums of ", pair), sums, example.sums)
		}
	}
}

// TestEqualSchemesInAnyOrder multiplies the factors of products, and puts them in another order.
func TestEqualSchemesInAnyOrder(t *testing.T) {
	eachSchemeToMove(func(s *sequence, x impl.Scheme) {
		var list []impl.Product
		for i := range x.Products {
			q := x.Products[(i*7+3)%len(x.Products)]
			if len(x.Products)%7 == 0 {
				q = x.Products[len(x.Products)-1-i]
			}
			a, b := 1+s.below(x.Prime-1), 1+s.below(x.Prime-1)
			inverse := power(a*b%x.Prime, x.Prime-2) % x.Prime
			list = append(list, impl.Product{A: times(x.Prime, a, q.A), B: times(x.Prime, b, q.B), C: times(x.Prime, inverse, q.C)})
		}
		y := withKept(x, list)
		equal, code := impl.AreEqualSchemes(x, y)
		wantCode(t, "AreEqualSchemes", code, impl.ErrNone)
		wantSame(t, fmt.Sprint("AreEqualSchemes of ", x, " and ", y), equal, true)
		if len(list) > 0 && x.Prime > 2 {
			list[0].C = times(x.Prime, 2, list[0].C)
			different, code := impl.AreEqualSchemes(x, withKept(x, list))
			wantCode(t, "AreEqualSchemes", code, impl.ErrNone)
			wantSame(t, "AreEqualSchemes with one C multiplied by 2", different, expectEqual(x, withKept(x, list)))
		}
	})
}

// TestEqualSchemesOfAnySchemes compares schemes of few different products.
func TestEqualSchemesOfAnySchemes(t *testing.T) {
	s := &sequence{}
	for range 2000 {
		p := primes[s.below(3)]
		x, y := alikeScheme(s, p, 1, 1, 1, int(s.below(4))), alikeScheme(s, p, 1, 1, 1, int(s.below(4)))
		equal, code := impl.AreEqualSchemes(x, y)
		wantCode(t, "AreEqualSchemes", code, impl.ErrNone)
		wantSame(t, fmt.Sprint("AreEqualSchemes of ", x, " and ", y), equal, expectEqual(x, y))
		sums, code := impl.HaveEqualSums(x, y)
		wantCode(t, "HaveEqualSums", code, impl.ErrNone)
		wantSame(t, fmt.Sprint("HaveEqualSums of ", x, " and ", y), sums, fmt.Sprint(expectSums(x)) == fmt.Sprint(expectSums(y)))
	}
}

// TestSumsAtOneEquation makes the left side of each equation different alone.
func TestSumsAtOneEquation(t *testing.T) {
	eachSize(func(p, n, m, k int64) {
		x := expectStandard(p, n, m, k)
		eachEquation(x, func(a, b, c int64) {
			var q impl.Product
			q.A[a], q.B[b], q.C[c] = byte(p-1), 1, 1
			y := withKept(x, append(append([]impl.Product{}, x.Products...), q))
			sums, code := impl.HaveEqualSums(x, y)
			wantCode(t, "HaveEqualSums", code, impl.ErrNone)
			if sums {
				t.Fatalf("HaveEqualSums of %v and %v, which differ at %d, %d, %d", x, y, a, b, c)
			}
		})
	})
}
