package tests

import (
	"fmt"
	"slices"
	"testing"

	"loop.example/g01262/impl"
)

// The texts and the numbers of the examples of this file were found by hand.

func TestTurnsAsTexts(t *testing.T) {
	for _, example := range []struct{ text, turned, transposed string }{
		{"5:1x2x3;12*123401*234", "5:2x3x1;123401*234*12", "5:3x2x1;142031*12*234"},
		{"5:2x2x2;1234*0123*4321", "5:2x2x2;0123*4231*1324", "5:2x2x2;0213*1324*4231"},
		{"5:2x3x1;123012*104*21", "5:3x1x2;104*21*102132", "5:1x3x2;104*102132*21"},
		{"3:3x1x2;120*12*210102+001*20*000012", "3:1x2x3;12*200112*120+20*001002*001", "3:2x1x3;12*120*200112+20*001*001002"},
		{"2:1x1x1;1*1*1+1*1*1", "2:1x1x1;1*1*1+1*1*1", "2:1x1x1;1*1*1+1*1*1"},
		{"3:3x2x1;", "3:2x1x3;", "3:1x2x3;"},
	} {
		x := parsed(t, example.text)
		wantText(t, "TurnScheme of "+example.text, turned(t, x), example.turned)
		wantText(t, "TransposeScheme of "+example.text, transposedScheme(t, x), example.transposed)
	}
}

// TestSidesOfTurns tests that the left sides of all equations move as the factors do.
func TestSidesOfTurns(t *testing.T) {
	eachSchemeToMove(func(s *sequence, x impl.Scheme) {
		n, m, k := x.Rows, x.Inner, x.Cols
		moved := func(place, rows, cols int64) int64 { return place%cols*rows + place/cols }
		onceTurned, transposition := turned(t, x), transposedScheme(t, x)
		for range 10 {
			a, b, c := s.below(n*m), s.below(m*k), s.below(n*k)
			left, code := impl.LeftSide(onceTurned, b, moved(c, n, k), moved(a, n, m))
			wantCode(t, "LeftSide", code, impl.ErrNone)
			wantSame(t, fmt.Sprint("LeftSide of the turned ", x), left, expectLeft(x, a, b, c))
			left, code = impl.LeftSide(transposition, moved(b, m, k), moved(a, n, m), moved(c, n, k))
			wantCode(t, "LeftSide", code, impl.ErrNone)
			wantSame(t, fmt.Sprint("LeftSide of the transposed ", x), left, expectLeft(x, a, b, c))
		}
	})
}

func TestChangesAsTexts(t *testing.T) {
	shear, other := [][]int64{{1, 1}, {0, 1}}, [][]int64{{0, 1}, {1, 0}}
	for _, example := range []struct {
		text    string
		squares triple
		want    string
	}{
		{"3:2x1x1;12*1*10", triple{shear, {{2}}, {{1}}}, "3:2x1x1;20*2*10"},
		{"3:1x2x1;12*11*2", triple{{{2}}, shear, {{2}}}, "3:1x2x1;11*21*2"},
		{"3:1x1x2;1*12*11", triple{{{1}}, {{1}}, shear}, "3:1x1x2;1*22*12"},
		{"2:2x2x2;0011*1000*0011", triple{shear, unit(2), unit(2)}, "2:2x2x2;0011*1000*1111"},
		{"5:2x2x2;1234*1234*1234", triple{other, unit(2), unit(2)}, "5:2x2x2;3412*1234*3412"},
		{"5:2x2x2;1234*1234*1234", triple{unit(2), other, unit(2)}, "5:2x2x2;2143*3412*1234"},
		{"5:2x2x2;1234*1234*1234", triple{unit(2), unit(2), other}, "5:2x2x2;1234*2143*2143"},
		{"5:1x1x1;1*1*1+2*3*4", triple{{{2}}, {{3}}, {{4}}}, "5:1x1x1;4*2*2+3*1*3"},
		{"5:3x2x1;", triple{unit(3), shear, {{4}}}, "5:3x2x1;"},
	} {
		made := changedBy(t, parsed(t, example.text), example.squares)
		wantText(t, fmt.Sprint("ChangeScheme of ", example.text, " by ", example.squares), made, example.want)
	}
}

// TestWhatChangesMake tests what the document says a change is: the scheme for P X Q^-1 and Q Y R^-1,
// also of schemes that are not correct.
func TestWhatChangesMake(t *testing.T) {
	eachSchemeToMove(func(s *sequence, x impl.Scheme) {
		p, squares := x.Prime, someTriple(s, x)
		back, made := inverses(p, squares), changedBy(t, x, squares)
		for range 3 {
			left, right := someMatrix(s, p, x.Rows, x.Inner), someMatrix(s, p, x.Inner, x.Cols)
			got, code := impl.MakeProduct(made, left, right)
			wantCode(t, "MakeProduct", code, impl.ErrNone)
			want := expectMade(x, chain(p, squares[0], left, back[1]), chain(p, squares[1], right, back[2]))
			wantSame(t, fmt.Sprint("MakeProduct by the change of ", x), got, chain(p, back[0], want, squares[2]))
		}
	})
}

// TestChangesOneAfterTheOther tests that two changes are one by the products of their squares, and
// how changes, turns and transpositions go together.
func TestChangesOneAfterTheOther(t *testing.T) {
	eachSchemeToMove(func(s *sequence, x impl.Scheme) {
		p, squares, next := x.Prime, someTriple(s, x), someTriple(s, x)
		made := changedBy(t, x, squares)
		var both triple
		for i := range both {
			both[i] = chain(p, squares[i], next[i])
		}
		wantScheme(t, "two changes", x, changedBy(t, made, next), changedBy(t, x, both))
		wantScheme(t, "a turned change", x, turned(t, made), changedBy(t, turned(t, x), triple{squares[1], squares[2], squares[0]}))
		back := inverses(p, squares)
		around := triple{transposed(back[2]), transposed(back[1]), transposed(back[0])}
		wantScheme(t, "a transposed change", x, transposedScheme(t, made), changedBy(t, transposedScheme(t, x), around))
	})
}

// TestFullSchemes takes schemes with exactly MaxProducts products, all of them equal in one of two.
func TestFullSchemes(t *testing.T) {
	s := &sequence{}
	eachSize(func(p, n, m, k int64) {
		x := someScheme(s, p, n, m, k, impl.MaxProducts)
		equal := withKept(x, slices.Repeat(x.Products[:1], impl.MaxProducts))
		for _, x := range []impl.Scheme{x, equal} {
			squares := someTriple(s, x)
			wantScheme(t, "TurnScheme", x, turned(t, x), expectTurned(x))
			wantScheme(t, "TransposeScheme", x, transposedScheme(t, x), expectTransposed(x))
			wantScheme(t, "ChangeScheme", x, changedBy(t, x, squares), expectChanged(x, squares))
			wantScaled(t, x)
			wantProfile(t, x, expectProfile(x))
		}
	})
}

func wantScaled(t *testing.T, x impl.Scheme) impl.Scheme {
	t.Helper()
	made, code := impl.ScaledScheme(x)
	wantCode(t, fmt.Sprint("ScaledScheme of ", x), code, impl.ErrNone)
	wantScheme(t, "ScaledScheme", x, made, expectScaled(x))
	return made
}

func TestScaledSchemesAsTexts(t *testing.T) {
	for _, example := range [][2]string{
		{"5:1x1x1;4*3*2", "5:1x1x1;1*1*4"},
		{"5:1x2x1;02*34*1", "5:1x2x1;01*13*1"},
		{"3:1x2x2;21*0212*12", "3:1x2x2;12*0121*12"},
		{"3:1x2x2;20*1000*12+01*0212*12+10*1000*01", "3:1x2x2;01*0121*21+10*1000*01+10*1000*21"},
		{"3:1x1x1;1*1*2+2*1*1+1*1*1+1*2*1", "3:1x1x1;1*1*1+1*1*2+1*1*2+1*1*2"},
		{"2:1x2x2;01*0011*01+11*1000*11+01*0001*11", "2:1x2x2;01*0001*11+01*0011*01+11*1000*11"},
		{"5:3x1x2;", "5:3x1x2;"},
	} {
		wantText(t, "ScaledScheme of "+example[0], wantScaled(t, parsed(t, example[0])), example[1])
	}
}

// TestScaledSchemesMakeTheSame tests that scaling is done once, and leaves what a scheme makes.
func TestScaledSchemesMakeTheSame(t *testing.T) {
	eachSchemeToMove(func(s *sequence, x impl.Scheme) {
		scaled := wantScaled(t, x)
		wantScheme(t, "ScaledScheme again", scaled, wantScaled(t, scaled), scaled)
		for range 5 {
			left, right := someMatrix(s, x.Prime, x.Rows, x.Inner), someMatrix(s, x.Prime, x.Inner, x.Cols)
			made, code := impl.MakeProduct(scaled, left, right)
			wantCode(t, "MakeProduct", code, impl.ErrNone)
			wantSame(t, fmt.Sprint("MakeProduct by the scaled ", x), made, expectMade(x, left, right))
		}
		// Schemes with the same left sides make the same of all matrices.
		wantSame(t, fmt.Sprint("left sides of the scaled ", x), expectSums(scaled), expectSums(x))
		equal, code := impl.AreEqualSchemes(x, scaled)
		wantCode(t, "AreEqualSchemes", code, impl.ErrNone)
		wantSame(t, fmt.Sprint("AreEqualSchemes of the scaled ", x), equal, true)
	})
	for _, p := range primes {
		wantProducts(t, wantScaled(t, strassen(p)))
		wantProducts(t, wantScaled(t, winograd(p)))
	}
}

func TestProfiles(t *testing.T) {
	for text, want := range map[string][][]int64{
		"2:2x2x2;": nil,
		"3:2x2x2;1001*1000*1200+1000*1001*1000+1200*1201*1100": {{1, 2, 1}, {1, 2, 1}, {2, 1, 1}},
		"5:2x2x2;1001*1000*1001+1000*1001*1001+1001*1000*1000": {{1, 2, 2}, {2, 1, 1}, {2, 1, 2}},
		"2:3x1x2;111*11*110101+100*10*010101":                  {{1, 1, 1}, {1, 1, 2}},
		"2:1x1x1;1*1*1+1*1*1":                                  {{1, 1, 1}, {1, 1, 1}},
	} {
		wantProfile(t, parsed(t, text), want)
	}
	for _, p := range primes {
		wantProfile(t, strassen(p), append(slices.Repeat([][]int64{{1, 1, 1}}, 6), []int64{2, 2, 2}))
		wantProfile(t, expectStandard(p, 2, 3, 1), slices.Repeat([][]int64{{1, 1, 1}}, 6))
	}
}

func TestProfilesOfSomeSchemes(t *testing.T) {
	s := &sequence{}
	eachSize(func(p, n, m, k int64) {
		for _, products := range []int{0, 1, 12, impl.MaxProducts} {
			x := someScheme(s, p, n, m, k, products)
			wantProfile(t, x, expectProfile(x))
		}
	})
}
