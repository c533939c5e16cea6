package tests

import (
	"fmt"
	"slices"
	"testing"

	"loop.example/g01262/impl"
)

// notBorders returns border schemes that break one condition each, by the name of what is wrong: those of
// what is no scheme, and others.
func notBorders() map[string]impl.Border {
	list := map[string]impl.Border{
		"31 full twigs":   fullBorder(5, 3, 3, 3, impl.MaxProducts+1),
		"31 drawn twigs":  someBorder(&sequence{}, 2, 1, 2, 1, impl.MaxProducts+1, 2),
		"1000 twigs":      fullBorder(2, 1, 1, 1, 1000),
		"300 equal twigs": oftenTwigs(makeBorder(3, 1, 1, 1, "1 1 1"), 300),
	}
	for name, x := range notSchemes() {
		list["e^0 and "+name] = expectBorderOf(x)
	}
	for _, p := range notPrimes {
		list[fmt.Sprint("a twig at e^3 and the prime ", p)] = makeBorder(p, 1, 1, 1, "0/0/0/1 1 1")
	}
	for _, n := range notSizes {
		list[fmt.Sprint("a twig and ", n, " rows")] = makeBorder(2, n, 1, 1, "1 0/1 1")
		list[fmt.Sprint("a twig and ", n, " inner")] = makeBorder(3, 1, n, 1, "1 1 0/0/1")
		list[fmt.Sprint("a twig and ", n, " columns")] = makeBorder(5, 1, 1, n, "0/0/0/1 1 1")
	}
	for _, p := range primes {
		for which := range 3 {
			for _, twigs := range []int{1, 2, impl.MaxProducts} {
				x := fullBorder(p, 2, 1, 2, twigs)
				*seriesOf(&x.Twigs[twigs-1], which) = impl.Series{}
				list[fmt.Sprint("0 everywhere in ", which, " of the last of ", twigs, " twigs modulo ", p)] = x
				y := fullBorder(p, 2, 1, 2, twigs)
				*seriesOf(&y.Twigs[0], which) = impl.Series{}
				list[fmt.Sprint("0 everywhere in ", which, " of the first of ", twigs, " twigs modulo ", p)] = y
			}
			addWrongNumbers(list, p, which)
		}
	}
	return list
}

// addWrongNumbers adds border schemes with one wrong number: p or more at a place of the matrix, and any
// one other than 0 at another place, at each power.
func addWrongNumbers(list map[string]impl.Border, p int64, which int) {
	add := func(x impl.Border, place int64, i int, number byte) {
		seriesOf(&x.Twigs[1], which)[place][i] = number
		list[fmt.Sprint(number, " at ", place, " and e^", i, " of the series ", which, " modulo ", p)] = x
	}
	for i := range 4 {
		for place := range int64(9) {
			for _, number := range []byte{byte(p), 255} {
				add(someBorder(&sequence{}, p, 3, 3, 3, 3, 5), place, i, number)
			}
			x := someBorder(&sequence{}, p, 2, 1, 2, 2, 2)
			for _, number := range []byte{1, byte(p - 1), byte(p)} {
				if place >= placesOf(x)[which] {
					y := x
					y.Twigs = slices.Clone(x.Twigs)
					add(y, place, i, number)
				}
			}
		}
	}
}

func TestNoBorders(t *testing.T) {
	for name, x := range notBorders() {
		if impl.IsBorder(x) || expectBorder(x) {
			t.Errorf("IsBorder of a border scheme with %s is true: %v", name, x)
		}
	}
}

// TestBordersAtTheirLimits has no twigs, and most of them.
func TestBordersAtTheirLimits(t *testing.T) {
	eachSize(func(p, n, m, k int64) {
		for _, twigs := range []int{0, 1, impl.MaxProducts} {
			wantSame(t, fmt.Sprint("IsBorder of ", twigs, " twigs"), impl.IsBorder(fullBorder(p, n, m, k, twigs)), true)
		}
		wantSame(t, "IsBorder of 31 twigs", impl.IsBorder(fullBorder(p, n, m, k, impl.MaxProducts+1)), false)
	})
}

// TestBordersWithoutTwigs has what all functions tell of them.
func TestBordersWithoutTwigs(t *testing.T) {
	eachSize(func(p, n, m, k int64) {
		x := impl.Border{Prime: p, Rows: n, Inner: m, Cols: k}
		made, code := impl.BorderOfScheme(bareScheme(x))
		wantBorder(t, "BorderOfScheme", made, code, x)
		wantOrder(t, "no twigs", x, -1)
		for d := range int64(10) {
			number, code := impl.CoefficientAt(x, n*m-1, m*k-1, n*k-1, d)
			wantCode(t, "CoefficientAt", code, impl.ErrNone)
			wantSame(t, "CoefficientAt", number, int64(0))
			correct, code := impl.IsBorderCorrect(x, d)
			wantCode(t, "IsBorderCorrect", code, impl.ErrNone)
			wantSame(t, "IsBorderCorrect", correct, false)
			wantExactScheme(t, x, d, bareScheme(x))
		}
		for which := range int64(3) {
			made, code := impl.RaiseBorder(x, which)
			wantBorder(t, "RaiseBorder", made, code, x)
		}
		for v := range p {
			if v > 0 {
				made, code := impl.StretchBorder(x, v)
				wantBorder(t, "StretchBorder", made, code, x)
			}
			value, code := impl.ValueOfBorder(x, v)
			wantCode(t, "ValueOfBorder", code, impl.ErrNone)
			wantScheme(t, "ValueOfBorder", bareScheme(x), value, bareScheme(x))
		}
		powers, code := impl.LowestPowers(x)
		wantCode(t, "LowestPowers", code, impl.ErrNone)
		wantSame(t, "LowestPowers", len(powers), 0)
	})
}

// borderCall is a call of a function of chapter 8 with a border scheme.
type borderCall struct {
	name string
	run  func(x impl.Border) (any, int64)
}

// borderCalls returns calls with other arguments that are good for all primes and sizes. Some of them
// return ErrLimit or ErrNotFound.
func borderCalls() []borderCall {
	calls := []borderCall{
		{"CoefficientAt", func(x impl.Border) (any, int64) { return pack(impl.CoefficientAt(x, 0, 0, 0, 3)) }},
		{"OrderOfBorder", func(x impl.Border) (any, int64) { return pack(impl.OrderOfBorder(x)) }},
		{"StretchBorder", func(x impl.Border) (any, int64) { return pack(impl.StretchBorder(x, 1)) }},
		{"LowestPowers", func(x impl.Border) (any, int64) { return pack(impl.LowestPowers(x)) }},
	}
	for h := range int64(10) {
		calls = append(calls,
			borderCall{fmt.Sprint("IsBorderCorrect of ", h), func(x impl.Border) (any, int64) { return pack(impl.IsBorderCorrect(x, h)) }},
			borderCall{fmt.Sprint("ExactScheme of ", h), func(x impl.Border) (any, int64) { return pack(impl.ExactScheme(x, h)) }},
			borderCall{fmt.Sprint("CountExact of ", h), func(x impl.Border) (any, int64) { return pack(impl.CountExact(x, h)) }},
		)
	}
	for at := range int64(3) {
		calls = append(calls, borderCall{fmt.Sprint("RaiseBorder of ", at), func(x impl.Border) (any, int64) { return pack(impl.RaiseBorder(x, at)) }})
	}
	for v := range int64(2) {
		calls = append(calls, borderCall{fmt.Sprint("ValueOfBorder at ", v), func(x impl.Border) (any, int64) { return pack(impl.ValueOfBorder(x, v)) }})
	}
	return calls
}

// notPowers are values that are no power of e with coefficients; some are one in their lowest bytes.
var notPowers = []int64{-1, 10, 11, -9, 256, 257, 1 << 32, 1<<32 + 1, 1<<63 - 1, -1 << 63}

// badBorderCalls returns calls each of which is ErrRange for all primes and sizes.
func badBorderCalls() []borderCall {
	var calls []borderCall
	for _, d := range notPowers {
		calls = append(calls,
			borderCall{fmt.Sprint("CoefficientAt of ", d), func(x impl.Border) (any, int64) { return pack(impl.CoefficientAt(x, 0, 0, 0, d)) }},
			borderCall{fmt.Sprint("CoefficientAt at ", d), func(x impl.Border) (any, int64) { return pack(impl.CoefficientAt(x, d, d, d, d)) }},
			borderCall{fmt.Sprint("IsBorderCorrect of ", d), func(x impl.Border) (any, int64) { return pack(impl.IsBorderCorrect(x, d)) }},
			borderCall{fmt.Sprint("ExactScheme of ", d), func(x impl.Border) (any, int64) { return pack(impl.ExactScheme(x, d)) }},
			borderCall{fmt.Sprint("CountExact of ", d), func(x impl.Border) (any, int64) { return pack(impl.CountExact(x, d)) }},
		)
	}
	for _, number := range []int64{-1, 3, 4, 256, 1 << 32, 1<<32 + 1, 1<<63 - 1, -1 << 63} {
		calls = append(calls, borderCall{fmt.Sprint("RaiseBorder of ", number), func(x impl.Border) (any, int64) { return pack(impl.RaiseBorder(x, number)) }})
	}
	for _, v := range []int64{-1, 5, 6, 256, 257, 1 << 32, 1<<32 + 1, 1<<63 - 1, -1 << 63} {
		calls = append(calls,
			borderCall{fmt.Sprint("StretchBorder by ", v), func(x impl.Border) (any, int64) { return pack(impl.StretchBorder(x, v)) }},
			borderCall{fmt.Sprint("ValueOfBorder at ", v), func(x impl.Border) (any, int64) { return pack(impl.ValueOfBorder(x, v)) }},
		)
	}
	return append(calls, borderCall{"StretchBorder by 0", func(x impl.Border) (any, int64) { return pack(impl.StretchBorder(x, 0)) }})
}

// TestBordersInvalidComesFirst tests that ErrInvalid is told ahead of what is wrong with other arguments,
// of coefficients that are all 0, and of too many products.
func TestBordersInvalidComesFirst(t *testing.T) {
	for name, x := range notBorders() {
		for _, call := range append(borderCalls(), badBorderCalls()...) {
			result, code := call.run(x)
			wantError(t, call.name+" of a border scheme with "+name, result, code, impl.ErrInvalid)
		}
	}
}

func TestBordersOfNoSchemes(t *testing.T) {
	for name, x := range notSchemes() {
		made, code := impl.BorderOfScheme(x)
		wantError(t, "BorderOfScheme of a scheme with "+name, made, code, impl.ErrInvalid)
	}
}

// TestBordersRangeComesBeforeLimit tests that ErrRange is told ahead of ErrLimit: full border schemes have
// too many products, and no room for raising.
func TestBordersRangeComesBeforeLimit(t *testing.T) {
	for _, p := range primes {
		for _, x := range []impl.Border{
			fullBorder(p, 2, 2, 2, impl.MaxProducts), fullBorder(p, 1, 1, 1, 1), fullBorder(p, 3, 1, 2, int(p)), fullBorder(p, 2, 2, 2, 0),
		} {
			for _, call := range badBorderCalls() {
				result, code := call.run(x)
				wantError(t, fmt.Sprint(call.name, " of full twigs"), result, code, impl.ErrRange)
			}
		}
	}
}

// TestPlacesOutOfBorders has places outside of each matrix, also such as others have, and the last ones.
func TestPlacesOutOfBorders(t *testing.T) {
	eachSize(func(p, n, m, k int64) {
		for _, twigs := range []int{0, 2} {
			x := fullBorder(p, n, m, k, twigs)
			counts := placesOf(x)
			for which, count := range counts {
				for _, outside := range append(outsideOf(count), 9) {
					places := [3]int64{}
					places[which] = outside
					number, code := impl.CoefficientAt(x, places[0], places[1], places[2], 0)
					if outside >= count || outside < 0 {
						wantError(t, fmt.Sprint("CoefficientAt at ", places, " of ", x), number, code, impl.ErrRange)
					}
				}
			}
			number, code := impl.CoefficientAt(x, counts[0]-1, counts[1]-1, counts[2]-1, 9)
			wantCode(t, "CoefficientAt at the last places", code, impl.ErrNone)
			wantSame(t, "CoefficientAt at the last places", number, int64(twigs)*power(p-1, 3)%p)
		}
	})
}

// TestRangesOfV has 0, which is in the range of values alone, and p, which is in none.
func TestRangesOfV(t *testing.T) {
	s := &sequence{}
	eachSize(func(p, n, m, k int64) {
		x := someBorder(s, p, n, m, k, 3, 2)
		for _, v := range []int64{-p, -1, 0, 1, p - 1, p, p + 1, 256, 257, 1 << 32, 1<<32 + 1, 1<<63 - 1, -1 << 63} {
			value, code := impl.ValueOfBorder(x, v)
			if v < 0 || v >= p {
				wantError(t, fmt.Sprint("ValueOfBorder at ", v, " modulo ", p), value, code, impl.ErrRange)
			} else {
				wantCode(t, fmt.Sprint("ValueOfBorder at ", v), code, impl.ErrNone)
			}
			made, code := impl.StretchBorder(x, v)
			if v < 1 || v >= p {
				wantError(t, fmt.Sprint("StretchBorder by ", v, " modulo ", p), made, code, impl.ErrRange)
			} else {
				wantCode(t, fmt.Sprint("StretchBorder by ", v), code, impl.ErrNone)
			}
		}
	})
}

// TestNoRoomForRaising puts a number at e^3 of the first, second or third series alone, at each place and in
// the first and last twig. The others can be raised.
func TestNoRoomForRaising(t *testing.T) {
	s := &sequence{}
	eachSize(func(p, n, m, k int64) {
		room := risen(s, expectStandard(p, n, m, k), 0, false)
		for range 2 {
			room = first(impl.RaiseBorder(first(impl.RaiseBorder(first(impl.RaiseBorder(room, 0)), 1)), 2))
		}
		for full, places := range placesOf(room) {
			for place := range places {
				for _, at := range []int{0, len(room.Twigs) - 1} {
					x := room
					x.Twigs = slices.Clone(room.Twigs)
					seriesOf(&x.Twigs[at], full)[place][3] = byte(p - 1)
					for which := range int64(3) {
						made, code := impl.RaiseBorder(x, which)
						if which == int64(full) {
							wantError(t, fmt.Sprint("RaiseBorder of ", which), made, code, impl.ErrLimit)
							continue
						}
						want, _ := expectRaised(x, int(which))
						wantBorder(t, fmt.Sprint("RaiseBorder of ", which), made, code, want)
					}
				}
			}
		}
	})
}

// TestLimitsOfExactSchemes has MaxProducts products, and one more, of as many twigs and of fewer.
func TestLimitsOfExactSchemes(t *testing.T) {
	for _, p := range primes {
		three := fullBorder(p, 2, 1, 2, 10)
		most := oftenTwigs(makeBorder(p, 2, 1, 2, "10 01 1001"), impl.MaxProducts)
		for h, want := range map[int64]int64{0: 10, 1: 30, 2: 60, 3: 100, 4: 120, 5: 120, 6: 100, 7: 60, 8: 30, 9: 10} {
			count, code := impl.CountExact(three, h)
			wantCode(t, "CountExact", code, impl.ErrNone)
			wantSame(t, fmt.Sprint("CountExact of ", h), count, want)
			wantExactScheme(t, three, h, expectExact(three, h))
		}
		wantExactScheme(t, most, 0, expectExact(most, 0))
		for _, x := range []impl.Border{three, most} {
			h := map[int]int64{10: 1, impl.MaxProducts: 0}[len(x.Twigs)]
			made, code := impl.ExactScheme(x, h)
			wantCode(t, "ExactScheme of most products", code, impl.ErrNone)
			wantSame(t, "ExactScheme of most products", len(made.Products), impl.MaxProducts)
		}
		// One product more: another twig, or a number at one more power of the last twig.
		more := three
		more.Twigs = append(slices.Clone(three.Twigs), makeBorder(p, 2, 1, 2, "10 0/01 1").Twigs...)
		most = oftenTwigs(makeBorder(p, 2, 1, 2, "10 0/01 1001"), impl.MaxProducts)
		most.Twigs[impl.MaxProducts-1] = makeBorder(p, 2, 1, 2, "10/01 01/01 1001").Twigs[0]
		for _, x := range []impl.Border{more, most} {
			count, code := impl.CountExact(x, 1)
			wantCode(t, "CountExact", code, impl.ErrNone)
			wantSame(t, "CountExact of one product too many", count, int64(impl.MaxProducts+1))
			made, code := impl.ExactScheme(x, 1)
			wantError(t, "ExactScheme of one product too many", made, code, impl.ErrLimit)
		}
	}
}

// TestCountExactOfMost has the greatest number of products that there can be.
func TestCountExactOfMost(t *testing.T) {
	eachSize(func(p, n, m, k int64) {
		x := fullBorder(p, n, m, k, impl.MaxProducts)
		for h := range int64(10) {
			count, code := impl.CountExact(x, h)
			wantCode(t, "CountExact", code, impl.ErrNone)
			wantSame(t, "CountExact", count, impl.MaxProducts*[]int64{1, 3, 6, 10, 12, 12, 10, 6, 3, 1}[h])
		}
	})
}

// TestBordersWithoutCoefficients tests ErrNotFound where all coefficients are 0 although there are twigs.
func TestBordersWithoutCoefficients(t *testing.T) {
	s := &sequence{}
	eachSize(func(p, n, m, k int64) {
		for _, x := range []impl.Border{
			bareBorder(expectStandard(p, n, m, k)), fullBorder(p, n, m, k, int(p)), oftenTwigs(someBorder(s, p, n, m, k, 3, 3), int(p)),
			fullBorder(p, n, m, k, int(30/p*p)),
		} {
			order, code := impl.OrderOfBorder(x)
			wantError(t, "OrderOfBorder of cancelled twigs", order, code, impl.ErrNotFound)
			for h := range int64(10) {
				correct, code := impl.IsBorderCorrect(x, h)
				wantCode(t, "IsBorderCorrect of cancelled twigs", code, impl.ErrNone)
				wantSame(t, "IsBorderCorrect of cancelled twigs", correct, false)
			}
		}
	})
}
