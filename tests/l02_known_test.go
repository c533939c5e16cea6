package tests

import (
	"fmt"
	"testing"

	"loop.example/g01262/impl"
)

func wantText(t *testing.T, what string, x impl.Scheme, want string) {
	t.Helper()
	text, code := impl.SchemeText(x)
	wantCode(t, what, code, impl.ErrNone)
	wantSame(t, what, text, want)
}

// The texts of this file were written by hand.

func TestKnownSchemesAsTexts(t *testing.T) {
	for _, example := range []struct {
		name string
		p    int64
		text string
	}{
		{"strassen", 2, "2:2x2x2;1001*1001*1001+0011*1000*0011+1000*0101*0101+0001*1010*1010+1100*0001*1100+1010*1100*0001+0101*0011*1000"},
		{"strassen", 3, "3:2x2x2;1001*1001*1001+0011*1000*0012+1000*0102*0101+0001*2010*1010+1100*0001*2100+2010*1100*0001+0102*0011*1000"},
		{"winograd", 5, "5:2x2x2;1000*1000*1111+0100*0010*1000+4011*1401*0111+0011*4100*0101+1040*0401*0011+0001*1441*0040+1144*0001*0100"},
		{"plain", 5, "5:2x2x2;1000*1000*1000+1000*0100*0100+0100*0010*1000+0100*0001*0100+0010*1000*0010+0010*0100*0001+0001*0010*0010+0001*0001*0001"},
	} {
		x, code := impl.KnownScheme(example.name, example.p)
		wantCode(t, example.name, code, impl.ErrNone)
		wantText(t, example.name, x, example.text)
	}
}

func TestJoinsAsTexts(t *testing.T) {
	x := makeScheme(3, 1, 1, 2, "1 12 21; 2 10 01")
	rows, code := impl.JoinRows(x, makeScheme(3, 2, 1, 2, "12 01 1200"))
	wantCode(t, "JoinRows", code, impl.ErrNone)
	wantText(t, "JoinRows", rows, "3:3x1x2;100*12*210000+200*10*010000+012*01*001200")
	inner, code := impl.JoinInner(x, makeScheme(3, 1, 2, 2, "12 0121 12"))
	wantCode(t, "JoinInner", code, impl.ErrNone)
	wantText(t, "JoinInner", inner, "3:1x3x2;100*120000*21+200*100000*01+012*000121*12")
	cols, code := impl.JoinCols(x, makeScheme(3, 1, 1, 1, "2 1 2"))
	wantCode(t, "JoinCols", code, impl.ErrNone)
	wantText(t, "JoinCols", cols, "3:1x1x3;1*120*210+2*100*010+2*001*002")
	wide, code := impl.JoinCols(makeScheme(5, 2, 2, 1, "1234 12 34"), makeScheme(5, 2, 2, 2, "4321 1234 4321"))
	wantCode(t, "JoinCols", code, impl.ErrNone)
	wantText(t, "JoinCols", wide, "5:2x2x3;1234*100200*300400+4321*012034*043021")
}

func TestProductsAsTexts(t *testing.T) {
	made, code := impl.MultiplySchemes(makeScheme(5, 1, 2, 1, "12 34 2; 10 01 1"), makeScheme(5, 3, 1, 2, "234 12 123400"))
	wantCode(t, "MultiplySchemes", code, impl.ErrNone)
	wantText(t, "MultiplySchemes", made, "5:3x2x2;243143*3143*241300+203040*0012*123400")
}

func TestRestrictionsAsTexts(t *testing.T) {
	x := makeScheme(3, 2, 2, 2, "1001 1200 1020; 0010 1000 1000; 1000 0200 1000; 1000 1000 0210; 2222 2121 1111")
	for _, example := range []struct {
		n, m, k int64
		text    string
	}{
		{2, 2, 2, "3:2x2x2;1001*1200*1020+0010*1000*1000+1000*0200*1000+1000*1000*0210+2222*2121*1111"},
		{1, 2, 2, "3:1x2x2;10*1200*10+10*0200*10+10*1000*02+22*2121*11"},
		{2, 1, 2, "3:2x1x2;10*12*1020+01*10*1000+10*02*1000+10*10*0210+22*21*1111"},
		{2, 2, 1, "3:2x2x1;1001*10*12+0010*10*10+1000*10*01+2222*22*11"},
		{1, 1, 1, "3:1x1x1;1*1*1+2*2*1"},
	} {
		made, code := impl.RestrictScheme(x, example.n, example.m, example.k)
		wantCode(t, "RestrictScheme", code, impl.ErrNone)
		wantText(t, fmt.Sprint("RestrictScheme to ", example.n, example.m, example.k), made, example.text)
	}
	none, code := impl.RestrictScheme(makeScheme(2, 2, 1, 1, "01 1 11"), 1, 1, 1)
	wantCode(t, "RestrictScheme", code, impl.ErrNone)
	wantText(t, "RestrictScheme without products that remain", none, "2:1x1x1;")
}

func TestJoinNumbers(t *testing.T) {
	for _, example := range [][4]int64{
		{1, 1, 1, 1}, {1, 1, 2, 2}, {2, 1, 2, 4}, {3, 1, 3, 9}, {1, 3, 3, 9}, {2, 2, 2, 7},
		{2, 2, 3, 11}, {2, 3, 2, 11}, {3, 2, 2, 11}, {2, 3, 3, 17}, {3, 2, 3, 17}, {3, 3, 2, 17}, {3, 3, 3, 26},
	} {
		number, code := impl.JoinNumber(example[0], example[1], example[2])
		wantCode(t, "JoinNumber", code, impl.ErrNone)
		wantSame(t, fmt.Sprint("JoinNumber of ", example[:3]), number, example[3])
	}
}

// TestJoinsOfAnySchemes joins schemes that are not correct, with 0 to all products.
func TestJoinsOfAnySchemes(t *testing.T) {
	s := &sequence{}
	for _, way := range joinWays {
		eachSize(func(p, n, m, k int64) {
			for part := int64(1); part <= impl.MaxSize-[3]int64{n, m, k}[way.at]; part++ {
				size := [3]int64{n, m, k}
				size[way.at] = part
				for _, products := range [][2]int{{0, 0}, {0, 1}, {1, 0}, {3, 4}, {0, 30}, {30, 0}, {29, 1}} {
					x := someScheme(s, p, n, m, k, products[0])
					y := someScheme(s, p, size[0], size[1], size[2], products[1])
					made, code := way.join(x, y)
					wantCode(t, way.name, code, impl.ErrNone)
					wantSame(t, fmt.Sprint(way.name, " of ", x, " and ", y), made, way.expect(x, y))
				}
			}
		})
	}
}

// TestProductsOfAnySchemes tries all sizes with each other, among them those that are too great.
func TestProductsOfAnySchemes(t *testing.T) {
	s := &sequence{}
	eachSize(func(p, n, m, k int64) {
		for other := range int64(27) {
			rows, inner, cols := other/9+1, other/3%3+1, other%3+1
			x, y := someScheme(s, p, n, m, k, 3), someScheme(s, p, rows, inner, cols, 2)
			made, code := impl.MultiplySchemes(x, y)
			what := fmt.Sprint("MultiplySchemes of ", x, " and ", y)
			if max(n*rows, m*inner, k*cols) > impl.MaxSize {
				wantError(t, what, made, code, impl.ErrLimit)
				continue
			}
			wantCode(t, what, code, impl.ErrNone)
			wantSame(t, what, made, expectMultiplied(x, y))
		}
	})
}

func TestRestrictionsOfAnySchemes(t *testing.T) {
	s := &sequence{}
	eachSize(func(p, n, m, k int64) {
		for _, products := range []int{0, 1, 8, 30} {
			x := someScheme(s, p, n, m, k, products)
			for at := range n * m * k {
				rows, inner, cols := at/(m*k)+1, at/k%m+1, at%k+1
				made, code := impl.RestrictScheme(x, rows, inner, cols)
				wantCode(t, "RestrictScheme", code, impl.ErrNone)
				what := fmt.Sprint("RestrictScheme to ", rows, inner, cols, " of ", x)
				wantSame(t, what, made, expectRestricted(x, rows, inner, cols))
			}
			whole, code := impl.RestrictScheme(x, n, m, k)
			wantCode(t, "RestrictScheme", code, impl.ErrNone)
			wantSame(t, "RestrictScheme to its own sizes", whole, x)
		}
	})
}

// TestRestrictionsOfJoins tests that the first part of a join comes back.
func TestRestrictionsOfJoins(t *testing.T) {
	s := &sequence{}
	for _, p := range primes {
		x, y := someScheme(s, p, 2, 2, 2, 6), someScheme(s, p, 1, 2, 2, 5)
		joined, code := impl.JoinRows(x, y)
		wantCode(t, "JoinRows", code, impl.ErrNone)
		back, code := impl.RestrictScheme(joined, 2, 2, 2)
		wantCode(t, "RestrictScheme", code, impl.ErrNone)
		wantSame(t, "the first part of a join", back, x)
	}
}
