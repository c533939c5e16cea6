package tests

import (
	"fmt"
	"slices"
	"strings"

	"loop.example/g01262/impl"
)

// makeSeries returns the series whose forms at e^0, e^1 and so on are written one behind the other,
// "1000/01m0"; m stands for p - 1.
func makeSeries(p int64, text string) impl.Series {
	var s impl.Series
	for i, digits := range strings.Split(text, "/") {
		for place, number := range makeForm(p, digits) {
			s[place][i] = number
		}
	}
	return s
}

// makeBorder returns the border scheme of twigs written as "A B C; A B C".
func makeBorder(p, n, m, k int64, twigs string) impl.Border {
	x := impl.Border{Prime: p, Rows: n, Inner: m, Cols: k}
	for _, twig := range strings.Split(twigs, ";") {
		parts := strings.Fields(twig)
		x.Twigs = append(x.Twigs, impl.Twig{A: makeSeries(p, parts[0]), B: makeSeries(p, parts[1]), C: makeSeries(p, parts[2])})
	}
	return x
}

// seriesFrom returns a series with drawn numbers at all powers from least on, of which one in every is
// other than 0, and that is not 0 everywhere.
func seriesFrom(s *sequence, p, places, least, every int64) impl.Series {
	var made impl.Series
	for made == (impl.Series{}) {
		for place := range places {
			for i := least; i < 4; i++ {
				if s.below(every) == 0 {
					made[place][i] = byte(s.below(p))
				}
			}
		}
	}
	return made
}

// someBorder returns a border scheme with drawn twigs, hardly ever correct of any order. One number in
// every is other than 0.
func someBorder(s *sequence, p, n, m, k int64, twigs int, every int64) impl.Border {
	x := impl.Border{Prime: p, Rows: n, Inner: m, Cols: k}
	for len(x.Twigs) < twigs {
		var t impl.Twig
		for which, places := range placesOf(x) {
			*seriesOf(&t, which) = seriesFrom(s, p, places, 0, every)
		}
		x.Twigs = append(x.Twigs, t)
	}
	return x
}

// fullBorder returns a border scheme with the greatest numbers at all places and powers.
func fullBorder(p, n, m, k int64, twigs int) impl.Border {
	x := impl.Border{Prime: p, Rows: n, Inner: m, Cols: k}
	for range twigs {
		var t impl.Twig
		for which, places := range placesOf(x) {
			for place := range places {
				for i := range 4 {
					seriesOf(&t, which)[place][i] = byte(p - 1)
				}
			}
		}
		x.Twigs = append(x.Twigs, t)
	}
	return x
}

// unitTwig returns the twig with 1 at the places a, b and c at powers of e, and 0 elsewhere.
func unitTwig(a, b, c int64, powers [3]int64) impl.Twig {
	var t impl.Twig
	t.A[a][powers[0]], t.B[b][powers[1]], t.C[c][powers[2]] = 1, 1, 1
	return t
}

// drawnPowers returns three powers of e, in 0..3, that are h together.
func drawnPowers(s *sequence, h int64) [3]int64 {
	for {
		powers := [3]int64{s.below(4), s.below(4), s.below(4)}
		if powers[0]+powers[1]+powers[2] == h {
			return powers
		}
	}
}

// placed returns a series with a form at one power of e.
func placed(f impl.Form, power int64) impl.Series {
	var s impl.Series
	for place, number := range f {
		s[place][power] = number
	}
	return s
}

// lifted returns a series with a form at one power of e, and with drawn numbers at all greater ones.
func lifted(s *sequence, p, places int64, f impl.Form, least int64) impl.Series {
	if least == 3 {
		return placed(f, least)
	}
	return seriesSum(p, placed(f, least), 1, seriesFrom(s, p, places, least+1, 2))
}

// seriesSum returns a series and t times another one added; t is greater than -p.
func seriesSum(p int64, first impl.Series, t int64, second impl.Series) impl.Series {
	var made impl.Series
	for i := range int64(4) {
		for place, number := range together(p, formAt(first, i), t, formAt(second, i)) {
			made[place][i] = number
		}
	}
	return made
}

// risen returns a border scheme with the forms of a scheme at drawn powers that are h together in each
// twig. With more, drawn numbers stand at all greater powers; none of them comes to e^h or less.
func risen(s *sequence, x impl.Scheme, h int64, more bool) impl.Border {
	made := bareBorder(x)
	for _, q := range x.Products {
		var t impl.Twig
		for which, least := range drawnPowers(s, h) {
			*seriesOf(&t, which) = placed(*factor(&q, which), least)
			if more {
				*seriesOf(&t, which) = lifted(s, x.Prime, placesOf(made)[which], *factor(&q, which), least)
			}
		}
		made.Twigs = append(made.Twigs, t)
	}
	return made
}

// divide makes two twigs of a drawn one: one has a drawn series in the place of one of its series, and the
// other one the rest of that series. All coefficients stay; numbers may come to lesser powers than before,
// where those of both twigs lift each other.
func divide(s *sequence, x impl.Border) impl.Border {
	at, which := s.below(int64(len(x.Twigs))), int(s.below(3))
	places := placesOf(x)[which]
	part := placed(someForm(s, x.Prime, places), s.below(4))
	if s.below(2) == 0 {
		part = seriesFrom(s, x.Prime, places, 0, 2)
	}
	first, second := x.Twigs[at], x.Twigs[at]
	rest := seriesSum(x.Prime, *seriesOf(&first, which), -1, part)
	if rest == (impl.Series{}) || len(x.Twigs) == impl.MaxProducts {
		return x
	}
	*seriesOf(&first, which), *seriesOf(&second, which) = rest, part
	x.Twigs = append(slices.Clone(x.Twigs), second)
	x.Twigs[at] = first
	return x
}

// layer returns what would be the scheme of the numbers at e^i alone; its forms may be 0 everywhere.
func layer(x impl.Border, i int64) impl.Scheme {
	made := bareScheme(x)
	for _, t := range x.Twigs {
		made.Products = append(made.Products, impl.Product{A: formAt(t.A, i), B: formAt(t.B, i), C: formAt(t.C, i)})
	}
	return made
}

// eachLayer returns the border scheme whose layers are what become makes of a layer number.
func eachLayer(become func(i int64) impl.Scheme) impl.Border {
	made := bareBorder(become(0))
	made.Twigs = make([]impl.Twig, len(become(0).Products))
	for i := range int64(4) {
		for at, q := range become(i).Products {
			for which := range 3 {
				series := seriesOf(&made.Twigs[at], which)
				*series = seriesSum(made.Prime, *series, 1, placed(*factor(&q, which), i))
			}
		}
	}
	return made
}

// joinedBorders joins two border schemes layer by layer.
func joinedBorders(join func(x, y impl.Scheme) impl.Scheme, x, y impl.Border) impl.Border {
	return eachLayer(func(i int64) impl.Scheme { return join(layer(x, i), layer(y, i)) })
}

func turnedBorder(x impl.Border) impl.Border {
	return eachLayer(func(i int64) impl.Scheme { return expectTurned(layer(x, i)) })
}

func changedBorder(x impl.Border, squares triple) impl.Border {
	return eachLayer(func(i int64) impl.Scheme { return expectChanged(layer(x, i), squares) })
}

// bini returns Bini's border scheme of ten twigs, correct of the order 1, for 3 rows, 2 inner and 2
// columns: five twigs for the rows 0 and 1 without the last entry of X there, five for the rest.
func bini(p int64) impl.Border {
	return makeBorder(p, 3, 2, 2, ""+
		"010000/100000 0100/0001 0100; 001000/100000 1000 1000/001; 0m0000 0100 1100/0001;"+
		"00m000 1100/0010 1; 011000 0100/0010 1000/0001;"+
		"000010/000001 0001/0100 000001; 000100/000001 0010 00001/001; 0000m0 0001 000011/000100;"+
		"000m00 0011/1000 00001; 000110 0001/1000 000010/000100")
}

// correctBorder is a border scheme that is correct of the order h.
type correctBorder struct {
	name string
	x    impl.Border
	h    int64
}

// correctBorders returns border schemes for a prime and sizes that are correct of their orders: of correct
// schemes, with drawn powers, with numbers at greater powers and without, divided, changed, and joined.
func correctBorders(s *sequence, p, n, m, k int64) []correctBorder {
	var list []correctBorder
	for _, x := range correctSchemes(p, n, m, k) {
		h, changed := s.below(10), expectChanged(x, someTriple(s, x))
		divided := divide(s, divide(s, risen(s, changed, h%4, false)))
		list = append(list,
			correctBorder{"of a scheme", expectBorderOf(x), 0},
			correctBorder{"of a changed scheme", expectBorderOf(changed), 0},
			correctBorder{"with drawn powers", risen(s, x, h, false), h},
			correctBorder{"with greater powers", risen(s, changed, h, true), h},
			correctBorder{"with greater powers, of the order 9", risen(s, x, 9, true), 9},
			correctBorder{"divided", divided, h % 4},
			correctBorder{"with greater powers, divided", divide(s, divide(s, risen(s, x, 2+h%3, true))), 2 + h%3},
			correctBorder{"divided and changed", changedBorder(divided, someTriple(s, x)), h % 4},
		)
	}
	list = append(list, joinedCorrectBorders(s, p, [3]int64{n, m, k})...)
	switch [3]int64{n, m, k} {
	case [3]int64{3, 2, 2}:
		list = append(list, correctBorder{"Bini's", bini(p), 1})
	case [3]int64{2, 2, 3}:
		list = append(list, correctBorder{"Bini's, turned", turnedBorder(bini(p)), 1})
	case [3]int64{2, 3, 2}:
		list = append(list, correctBorder{"Bini's, turned twice", turnedBorder(turnedBorder(bini(p))), 1})
	case [3]int64{3, 2, 3}:
		column := risen(s, expectStandard(p, 3, 2, 1), 1, true)
		list = append(list, correctBorder{"Bini's, joined", joinedBorders(expectJoinCols, bini(p), column), 1})
	}
	return list
}

// joinedCorrectBorders returns joins of border schemes that are correct of the same order.
func joinedCorrectBorders(s *sequence, p int64, size [3]int64) []correctBorder {
	var list []correctBorder
	for _, way := range joinWays {
		if size[way.at] == 1 {
			continue
		}
		first, second := size, size
		first[way.at], second[way.at] = 1, size[way.at]-1
		h := s.below(4)
		x := divide(s, risen(s, expectStandard(p, first[0], first[1], first[2]), h, false))
		y := divide(s, risen(s, expectJoinScheme(p, second[0], second[1], second[2]), h, true))
		list = append(list, correctBorder{"joined by " + way.name, joinedBorders(way.expect, x, y), h})
	}
	return list
}

// eachCorrectBorder calls do for correct border schemes of all primes and sizes.
func eachCorrectBorder(do func(s *sequence, border correctBorder)) {
	s := &sequence{}
	eachSize(func(p, n, m, k int64) {
		for _, border := range correctBorders(s, p, n, m, k) {
			border.name = fmt.Sprint(border.name, " for ", p, n, m, k, " of the order ", border.h)
			do(s, border)
		}
	})
}

// borders returns border schemes for a prime and sizes: drawn ones with many and with few numbers, without
// twigs, with equal twigs, with coefficients that are all 0, and correct ones.
func borders(s *sequence, p, n, m, k int64) []impl.Border {
	list := []impl.Border{
		someBorder(s, p, n, m, k, 0, 1), someBorder(s, p, n, m, k, 1, 1), someBorder(s, p, n, m, k, 4, 1),
		someBorder(s, p, n, m, k, 1, 9), someBorder(s, p, n, m, k, 3, 9), someBorder(s, p, n, m, k, 7, 9),
		fullBorder(p, n, m, k, 2), fullBorder(p, n, m, k, int(p)),
		risen(s, someScheme(s, p, n, m, k, 3), s.below(10), true),
		oftenTwigs(someBorder(s, p, n, m, k, 1, 2), int(p)),
		divide(s, divide(s, someBorder(s, p, n, m, k, 2, 4))),
	}
	for at, border := range correctBorders(s, p, n, m, k) {
		if at < 3 || at%3 == 0 {
			list = append(list, border.x)
		}
	}
	return list
}

// oftenTwigs returns a border scheme with all twigs as often as told; as often as p, all coefficients are 0.
func oftenTwigs(x impl.Border, times int) impl.Border {
	x.Twigs = slices.Repeat(x.Twigs, times)
	return x
}

// eachSmallBorder calls do for border schemes of all primes and sizes.
func eachSmallBorder(do func(s *sequence, x impl.Border)) {
	s := &sequence{}
	eachSize(func(p, n, m, k int64) {
		for _, x := range borders(s, p, n, m, k) {
			do(s, x)
		}
	})
}

// eachBorder calls do for these and for some with most twigs.
func eachBorder(do func(s *sequence, x impl.Border)) {
	eachSmallBorder(do)
	s := &sequence{3}
	for _, p := range primes {
		for _, size := range [][3]int64{{1, 1, 1}, {2, 2, 2}, {1, 3, 2}, {3, 3, 3}} {
			for _, every := range []int64{1, 5} {
				do(s, someBorder(s, p, size[0], size[1], size[2], impl.MaxProducts, every))
				do(s, someBorder(s, p, size[0], size[1], size[2], impl.MaxProducts-1, every))
			}
			do(s, fullBorder(p, size[0], size[1], size[2], impl.MaxProducts))
		}
	}
}

// sameBorder compares two border schemes.
func sameBorder(x, y impl.Border) bool {
	return x.Prime == y.Prime && x.Rows == y.Rows && x.Inner == y.Inner && x.Cols == y.Cols && slices.Equal(x.Twigs, y.Twigs)
}
