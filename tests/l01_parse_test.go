package tests

import (
	"fmt"
	"strings"
	"testing"

	"loop.example/g01262/impl"
)

func wantSyntax(t *testing.T, text string) {
	t.Helper()
	x, code := impl.ParseScheme(text)
	wantError(t, fmt.Sprintf("ParseScheme(%q)", text), x, code, impl.ErrSyntax)
}

// notTexts are texts of no scheme.
var notTexts = []string{
	"", ";", ":", "2", "2:", "2:1x1x1", "1x1x1;", ":1x1x1;", "2:1x1;", "2:1x1x;", "2:x1x1;", "2:1xx1;", "2:1x1x1x1;",
	"02:1x1x1;", "2:01x1x1;", "2:1x01x1;", "2:1x1x01;", "+2:1x1x1;", "-2:1x1x1;", " 2:1x1x1;", "2:1x1x1; ", "2:1x1x1;\n", "2 :1x1x1;",
	"0:1x1x1;", "1:1x1x1;", "4:1x1x1;", "6:1x1x1;", "7:1x1x1;", "11:1x1x1;", "258:1x1x1;", "4294967298:1x1x1;", "18446744073709551618:1x1x1;",
	"2:0x1x1;", "2:1x0x1;", "2:1x1x0;", "2:4x1x1;", "2:1x4x1;", "2:1x1x4;", "2:10x1x1;", "2:257x1x1;",
	"2;1x1x1;", "2:1X1x1;", "2:1*1*1;", "2:1x1x1:", "2:1x1x1;;", "2:1x1x1;;1*1*1", "2:1x1x1;1*1*1;",
	"2:1x1x1;0*1*1", "2:1x1x1;1*0*1", "2:1x1x1;1*1*0", "2:1x1x1;2*1*1", "2:1x1x1;1*2*1", "2:1x1x1;1*1*2",
	"3:1x1x1;3*1*1", "5:1x1x1;1*5*1", "5:1x1x1;1*1*9", "5:1x1x1;a*1*1", "5:1x1x1;1*/*1", "5:1x1x1;1*:*1",
	"2:1x1x1;1", "2:1x1x1;1*1", "2:1x1x1;1*1*", "2:1x1x1;*1*1", "2:1x1x1;1**1", "2:1x1x1;1*1*1*", "2:1x1x1;1*1*1*1", "2:1x1x1;**",
	"2:1x1x1;11*1*1", "2:1x1x1;1*10*1", "2:1x1x1;1*1*01", "2:1x2x1;1*10*1", "2:1x2x1;10*1*1", "2:1x2x1;10*10*10",
	"2:1x1x1;+", "2:1x1x1;+1*1*1", "2:1x1x1;1*1*1+", "2:1x1x1;1*1*1++1*1*1", "2:1x1x1;1*1*1 +1*1*1", "2:1x1x1;1*1*1-1*1*1", "2:1x1x1;1*1*11*1*1",
	"2:2x2x2;10010*1001*1001", "2:2x2x2;1001*100*1001", "2:3x3x3;1000000000*100000000*100000000", "2:2x2x2;1001*1001*1001,0011*1000*0011",
	"\u0662:1x1x1;", "2:1x1x1;\u0661*1*1", "2:1x1x1;1*1*1\x00", "\xff", "2:1x1x1;\xb1*1*1", "\xb2:1x1x1;",
	strings.Repeat("+", 100000), "2:1x1x1;" + strings.Repeat("1*1*1+", 100000), strings.Repeat("2:1x1x1;", 1000),
}

func TestParseSchemeSyntax(t *testing.T) {
	for _, text := range notTexts {
		wantSyntax(t, text)
	}
}

func TestParseSchemeNumberOfProducts(t *testing.T) {
	for products := range 40 {
		text := "3:1x1x1;" + strings.Repeat("+1*2*1", products)
		text = strings.Replace(text, ";+", ";", 1)
		if products > impl.MaxProducts {
			wantSyntax(t, text)
			continue
		}
		x, code := impl.ParseScheme(text)
		wantCode(t, text, code, impl.ErrNone)
		wantSame(t, text, len(x.Products), products)
	}
}

// TestParseSchemeNearly changes texts of schemes at one place, and asks for what these tests parse.
func TestParseSchemeNearly(t *testing.T) {
	s := &sequence{}
	texts := []string{"2:1x1x1;", "5:3x3x3;", expectText(strassen(3))}
	for _, size := range [][3]int64{{1, 1, 1}, {1, 2, 1}, {2, 1, 3}, {2, 3, 2}, {3, 3, 3}} {
		for _, p := range primes {
			texts = append(texts, expectText(someScheme(s, p, size[0], size[1], size[2], int(1+s.below(3)))))
		}
	}
	for _, text := range texts {
		wantParsed(t, text)
		for at := range len(text) + 1 {
			wantParsed(t, text[:at])
			wantParsed(t, text[at:])
			for _, part := range []string{"0", "1", "2", "3", "4", "5", "x", ":", ";", "*", "+", " ", "\n", "-", "/", "\x80"} {
				wantParsed(t, text[:at]+part+text[at:])
				if at < len(text) {
					wantParsed(t, text[:at]+part+text[at+1:])
				}
			}
			if at < len(text) {
				wantParsed(t, text[:at]+text[at+1:])
				wantParsed(t, text[:at]+text[at:at+1]+text[at:])
			}
		}
	}
}

func wantParsed(t *testing.T, text string) {
	t.Helper()
	want, ok := expectParse(text)
	if !ok {
		wantSyntax(t, text)
		return
	}
	x, code := impl.ParseScheme(text)
	wantCode(t, fmt.Sprintf("ParseScheme(%q)", text), code, impl.ErrNone)
	wantSame(t, fmt.Sprintf("ParseScheme(%q)", text), x, want)
}

func TestParseSchemeOfAllHeads(t *testing.T) {
	for number := range power(10, 4) {
		p, n, m, k := number%10, number/10%10, number/100%10, number/1000
		wantParsed(t, fmt.Sprintf("%d:%dx%dx%d;", p, n, m, k))
	}
}
