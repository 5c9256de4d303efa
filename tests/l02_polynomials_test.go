package tests

import (
	"fmt"
	"math/big"
	"math/rand/v2"
	"slices"
	"strings"
	"testing"

	"loop.example/g01120/impl"
)

// Promise 3: polynomials are a ring with division, gcd and its factors, and values determine them.

func TestPolynomialLimits(t *testing.T) {
	got := []int64{impl.MaxDegree, impl.MaxRaised}
	if want := []int64{12, 200}; !slices.Equal(got, want) {
		t.Errorf("got %v, want %v", got, want)
	}
}

func TestExamplesOfPolynomials(t *testing.T) {
	a := []string{"1", "-3/2", "1"}
	text, ok := impl.PolyText(a)
	wantText(t, "the text", text, ok, "x^2-3/2x+1")
	read, ok := impl.ReadPoly("x^2-3/2x+1")
	if !ok || !slices.Equal(read, a) {
		t.Errorf("reading: got %q, %v", read, ok)
	}
	quotient, rest, ok := impl.DividePolys(a, []string{"-1", "1"})
	wantPoly(t, "quotient", quotient, ok, "x-1/2")
	wantPoly(t, "remainder", rest, ok, "1/2")
	x, y := []string{"-1", "0", "1"}, []string{"-2", "2"}
	common, ok := impl.GcdPolys(x, y)
	wantPoly(t, "gcd", common, ok, "x-1")
	s, r, ok := impl.BezoutPolys(x, y)
	wantPoly(t, "s", s, ok, "0")
	wantPoly(t, "t", r, ok, "1/2")
}

func TestValidPoly(t *testing.T) {
	good := [][]string{
		nil, {}, {"1"}, {"-1/2"}, {"0", "1"}, {"0", "0", "0", "-5/3"}, {"1", "0", "1"}, {nines(60)}, {"-" + tenTo(59) + "/" + nines(60), "1/" + nines(60)},
		copies("1", 13), append(copies("0", 12), "-1"), copies("-"+nines(60)+"/"+tenTo(59), 13),
	}
	bad := [][]string{
		{"0"}, {"1", "0"}, {"0", "0"}, {"1", "2", "0", "0"}, {""}, {"", "1"}, {"1", ""}, {"x"}, {"-0", "1"}, {"1", "-0"}, {"2/4", "1"}, {"1", "+1"}, {"5/1", "1"}, {"01", "1"}, {"1", "1/0"},
		{nines(61), "1"}, {"1", "1/" + tenTo(60)}, copies("1", 14), append(copies("0", 13), "1"), append(copies("1", 13), "0"), append(copies("1", 12), "0"), copies("0", 13), copies("1", 60), copies("1", 5000),
		{"x^2"}, {"1,2"}, {"none"}, {"1", "\xff"},
	}
	for _, p := range good {
		if !impl.ValidPoly(p) || !isPolyList(p) {
			t.Errorf("%q is a polynomial", p)
		}
	}
	for _, p := range bad {
		if impl.ValidPoly(p) || isPolyList(p) {
			t.Errorf("%.80q is no polynomial", p)
		}
	}
}

// checkRing compares sums, products and compositions with the oracle.
func checkRing(t *testing.T, a, b []string) {
	t.Helper()
	p, q := ratsOf(a), ratsOf(b)
	what := func(name string) string { return name + " " + polyText(a) + " and " + polyText(b) }
	got, ok := impl.AddPolys(a, b)
	wantRats(t, what("add"), got, ok, p.plusTimes(q, big.NewRat(1, 1)))
	got, ok = impl.SubPolys(a, b)
	wantRats(t, what("sub"), got, ok, p.plusTimes(q, big.NewRat(-1, 1)))
	got, ok = impl.MulPolys(a, b)
	wantRats(t, what("mul"), got, ok, p.times(q))
	if len(a)*len(b) < 40 {
		got, ok = impl.ComposePolys(a, b)
		wantRats(t, what("compose"), got, ok, p.with(q))
	}
}

// checkDivision compares quotients, common divisors, their factors and resultants with the oracle.
func checkDivision(t *testing.T, a, b []string) {
	t.Helper()
	p, q := ratsOf(a), ratsOf(b)
	what := func(name string) string { return name + " " + polyText(a) + " and " + polyText(b) }
	got, ok := impl.GcdPolys(a, b)
	wantRats(t, what("gcd"), got, ok, p.gcd(q))
	quotient, rest, ok := impl.DividePolys(a, b)
	if len(b) == 0 {
		wantPoly(t, what("quotient"), quotient, ok, "")
		wantPoly(t, what("remainder"), rest, ok, "")
	} else {
		wantQuotient, wantRest := p.divide(q)
		wantBoth(t, what("divide"), quotient, rest, ok, wantQuotient, wantRest)
	}
	s, r, ok := impl.BezoutPolys(a, b)
	value, okValue := impl.ResultantOf(a, b)
	if len(a) == 0 || len(b) == 0 {
		wantPoly(t, what("s"), s, ok, "")
		wantPoly(t, what("t"), r, ok, "")
		wantText(t, what("resultant"), value, okValue, "")
		return
	}
	wantS, wantT := p.bezout(q)
	wantBoth(t, what("bezout"), s, r, ok, wantS, wantT)
	wantText(t, what("resultant"), value, okValue, textOf(p.resultant(q)))
	if ok {
		checkFactors(t, what("factors"), p, q, ratsOf(s), ratsOf(r))
	}
}

// wantBoth checks two results, which fail together.
func wantBoth(t *testing.T, what string, first, second []string, ok bool, wantFirst, wantSecond rats) {
	t.Helper()
	listFirst, fits := listOf(wantFirst)
	listSecond, fitsSecond := listOf(wantSecond)
	if !fits || !fitsSecond {
		fits, listFirst, listSecond = false, nil, nil
	}
	if ok != fits || !slices.Equal(first, listFirst) || !slices.Equal(second, listSecond) {
		t.Errorf("%s: got %q, %q, %v, want %q, %q, %v", what, first, second, ok, listFirst, listSecond, fits)
	}
}

// checkFactors checks what the document says of s and t.
func checkFactors(t *testing.T, what string, p, q, s, r rats) {
	t.Helper()
	g := p.gcd(q)
	part, _ := q.divide(g)
	sum := s.times(p).plusTimes(r.times(q), big.NewRat(1, 1))
	if len(sum.plusTimes(g, big.NewRat(-1, 1))) != 0 {
		t.Errorf("%s: they do not make the gcd", what)
	}
	if len(s) > 0 && len(s) >= len(part) {
		t.Errorf("%s: the degree of s is %d", what, len(s)-1)
	}
}

// checkAlone compares all functions of one polynomial with the oracle.
func checkAlone(t *testing.T, a []string) {
	t.Helper()
	p, what := ratsOf(a), polyText(a)
	got, ok := impl.DerivativeOf(a)
	wantRats(t, "derivative of "+what, got, ok, p.derivative())
	got, ok = impl.ReversePoly(a)
	reversed := slices.Clone(p)
	slices.Reverse(reversed)
	wantRats(t, "reversed "+what, got, ok, reversed.cut())
	got, ok = impl.SquareFreeOf(a)
	if len(a) == 0 {
		wantPoly(t, "square-free part of 0", got, ok, "")
	} else {
		wantRats(t, "square-free part of "+what, got, ok, p.squareFree())
	}
	for _, x := range []string{"0", "1", "-1", "2/3", "-7/2"} {
		value, ok := impl.EvalPoly(a, x)
		wantText(t, "value of "+what+" at "+x, value, ok, textOf(p.at(ratOf(x))))
	}
	checkPolyText(t, a)
}

func checkPolyText(t *testing.T, a []string) {
	t.Helper()
	text, ok := impl.PolyText(a)
	wantText(t, "text", text, ok, polyText(a))
	read, ok := impl.ReadPoly(polyText(a))
	if !ok || !slices.Equal(read, a) {
		t.Errorf("ReadPoly of %s: got %q, %v", polyText(a), read, ok)
	}
}

func TestAllTinyPolynomials(t *testing.T) {
	t.Parallel()
	polys := [][]string{{}}
	for _, c := range []string{"-1", "1", "2"} {
		polys = append(polys, []string{c})
		for _, b := range []string{"-1", "0", "1/2", "2"} {
			polys = append(polys, []string{b, c})
			for _, a := range []string{"-1", "0", "1"} {
				polys = append(polys, []string{a, b, c})
			}
		}
	}
	for _, a := range polys {
		checkAlone(t, a)
		for _, b := range polys {
			checkRing(t, a, b)
			checkDivision(t, a, b)
		}
	}
}

func TestRandomPolynomials(t *testing.T) {
	t.Parallel()
	random := rand.New(rand.NewPCG(5, 6))
	for range 1500 {
		a, b := smallPoly(random, 6), smallPoly(random, 6)
		checkAlone(t, a)
		checkRing(t, a, b)
		checkDivision(t, a, b)
	}
	for range 100 {
		a, b := smallPoly(random, 12), smallPoly(random, 12)
		checkAlone(t, a)
		checkRing(t, a, b)
		checkDivision(t, a, b)
	}
	for range 300 {
		a, b := greatPoly(random, 3), greatPoly(random, 3)
		checkAlone(t, a)
		checkRing(t, a, b)
		checkDivision(t, a, b)
	}
}

func TestPolynomialsWithCommonDivisors(t *testing.T) {
	random := rand.New(rand.NewPCG(7, 8))
	for range 600 {
		shared := ratsOf(smallPoly(random, 4))
		a, okA := listOf(shared.times(ratsOf(smallPoly(random, 4))))
		b, okB := listOf(shared.times(ratsOf(smallPoly(random, 4))))
		if okA && okB {
			checkDivision(t, a, b)
		}
	}
}

// The remainders fall by more than one degree, and the one that is 0 comes after a few of them.
func TestGapsBetweenRemainders(t *testing.T) {
	for _, c := range [][2]string{
		{"x^8+x^6-3x^4-3x^3+8x^2+2x-5", "3x^6+5x^4-4x^2-9x+21"}, {"x^12-1", "x^8-1"}, {"x^12-1", "x^9-1"}, {"x^12+1", "x^7+x"}, {"x^10", "x^7+1"}, {"x^7+1", "x^10"}, {"2x^12-1", "3x^5-x"},
		{"x^9-2x^3+1", "x^9-2x^3+2"}, {"x^9-2x^3+1", "x^9-x^4"}, {"x^11+1/2", "x^3-1/3"}, {"x^12-x^6", "x^6-1"}, {"x^5", "x^12"}, {"3x^4-3", "2x^4-2"}, {"x^12", "x^12"}, {"5", "x^12-7"}, {"x^12-7", "5"}, {"5", "7"},
		{"x^3+x", "3"}, {"3", "x^3+x"}, {"-2x", "x"}, {"x", "-2x"}, {"1/3x^5-x^4", "x^4"}, {"x^6-x", "x^5-1"},
	} {
		checkDivision(t, poly(c[0]), poly(c[1]))
		checkDivision(t, poly(c[1]), poly(c[0]))
	}
}

func TestRepeatedRoots(t *testing.T) {
	for p, want := range map[string]string{
		"2x^3-2x^2": "x^2-x", "x^12": "x", "-3x^12": "x", "5": "1", "-1/2": "1", "3x-1": "x-1/3", "x^2-2x+1": "x-1", "-x^4+2x^2-1": "x^2-1", "x^4-4x^3+6x^2-4x+1": "x-1",
		"4x^4+4x^3+x^2": "x^2+1/2x", "x^5-x^3": "x^3-x", "x^4+2x^2+1": "x^2+1", "x^12-1": "x^12-1", "x^12-2x^6+1": "x^6-1", "0": "",
	} {
		got, ok := impl.SquareFreeOf(readForTest(p))
		wantPoly(t, "square-free part of "+p, got, ok, want)
	}
	random := rand.New(rand.NewPCG(9, 10))
	for range 300 {
		p := ratsOf(smallPoly(random, 3))
		power := p.times(p).times(p)
		if a, ok := listOf(power.times(ratsOf(smallPoly(random, 3)))); ok {
			checkAlone(t, a)
		}
	}
}

// readForTest reads what a test writes, also the polynomial 0.
func readForTest(s string) []string {
	if s == "0" {
		return nil
	}
	return poly(s)
}

func TestResultants(t *testing.T) {
	for _, c := range []struct{ a, b, want string }{
		{"x^2-2", "x-1", "-1"}, {"x-1", "x^2-2", "-1"}, {"3", "x^2-2", "9"}, {"x^2-2", "3", "9"}, {"5", "7", "1"}, {"-1/2", "-3", "1"}, {"x", "x", "0"}, {"x^2-1", "2x-2", "0"},
		{"x-2", "x-5", "-3"}, {"x-5", "x-2", "3"}, {"x^3-2", "x-5", "-123"}, {"x-5", "x^3-2", "123"}, {"2x-1", "3x-1", "1"}, {"-x^3+1", "x^2+x+1", "0"}, {"1/2", "x^3", "1/8"}, {"-2", "x^3", "-8"}, {"x^3", "-2", "-8"}, {"-2", "x^12", "4096"},
		{"x^12-1", "x^11-2", "4095"}, {"x^3+x+1", "x^5+x^3+2", "17"}, {"0", "x", ""}, {"x", "0", ""}, {"0", "0", ""}, {"0", "1", ""},
	} {
		value, ok := impl.ResultantOf(readForTest(c.a), readForTest(c.b))
		want := c.want
		if a, b := ratsOf(readForTest(c.a)), ratsOf(readForTest(c.b)); len(a) > 0 && len(b) > 0 && a.resultant(b).RatString() != want {
			t.Fatalf("the test wants %s of %s and %s, which is %s", want, c.a, c.b, a.resultant(b).RatString())
		}
		wantText(t, "resultant of "+c.a+" and "+c.b, value, ok, want)
	}
}

// The formula of the document, step by step.
func TestResultantsByTheirRemainders(t *testing.T) {
	random := rand.New(rand.NewPCG(11, 12))
	for range 400 {
		a, b := smallPoly(random, 5), smallPoly(random, 5)
		if len(a) == 0 || len(b) < 2 {
			continue
		}
		_, rest, ok := impl.DividePolys(a, b)
		value, okValue := impl.ResultantOf(a, b)
		if !ok || !okValue {
			t.Fatalf("%s and %s fail", polyText(a), polyText(b))
		}
		if len(rest) == 0 {
			wantText(t, "resultant with a divisor", value, okValue, "0")
			continue
		}
		inner, _ := impl.ResultantOf(b, rest)
		want := ratOf(inner)
		for range len(a) - len(rest) {
			want.Mul(want, ratOf(b[len(b)-1]))
		}
		if len(a)%2 == 0 && len(b)%2 == 0 {
			want.Neg(want)
		}
		wantText(t, "resultant of "+polyText(a)+" and "+polyText(b), value, okValue, want.RatString())
	}
}

func TestPowersOfX(t *testing.T) {
	divisors := []string{"1", "-5", "1/3", "x", "2x", "x-1", "x+1", "x-2", "2x-1", "x^2-x-1", "x^2+1", "x^2-2", "2x^2-1", "-x^2+x-1", "3x^3-x+2", "x^4", "x^5-1", "x^12-1", "x^12", "2x^12-1", "x^12-x^11-1", "1/2x^3-1/3", "6x^2-5x+1", "x^6-1/2x^3+1/7"}
	for _, p := range divisors {
		for _, n := range []int{0, 1, 2, 3, 4, 5, 6, 11, 12, 13, 24, 25, 60, 100, 199, 200} {
			got, ok := impl.PowerOfX(int64(n), poly(p))
			wantRats(t, fmt.Sprint("power ", n, " of x for ", p), got, ok, ratsOf(poly(p)).powerOfX(n))
		}
	}
	random := rand.New(rand.NewPCG(13, 14))
	for range 300 {
		p, n := smallPoly(random, 6), random.IntN(40)
		if len(p) > 0 {
			got, ok := impl.PowerOfX(int64(n), p)
			wantRats(t, fmt.Sprint("power ", n, " of x for ", polyText(p)), got, ok, ratsOf(p).powerOfX(n))
		}
	}
	for range 100 {
		p, n := greatPoly(random, 4), random.IntN(8)
		if len(p) > 0 {
			got, ok := impl.PowerOfX(int64(n), p)
			wantRats(t, fmt.Sprint("power ", n, " of x for ", polyText(p)), got, ok, ratsOf(p).powerOfX(n))
		}
	}
}

func TestPolynomialsThroughValues(t *testing.T) {
	for _, c := range []struct {
		xs, ys []string
		want   string
	}{
		{[]string{"0", "1", "2"}, []string{"1", "2", "5"}, "x^2+1"}, {[]string{"2", "0", "1"}, []string{"5", "1", "2"}, "x^2+1"}, {[]string{"0"}, []string{"0"}, "0"}, {[]string{"5"}, []string{"-2/3"}, "-2/3"}, {[]string{"1", "2", "3"}, []string{"0", "0", "0"}, "0"},
		{[]string{"1", "2", "3"}, []string{"7", "7", "7"}, "7"}, {[]string{"1/2", "-1/2"}, []string{"1", "0"}, "x+1/2"}, {[]string{"0", "1", "2", "3"}, []string{"0", "2", "4", "6"}, "2x"}, {[]string{"0", "0"}, []string{"1", "2"}, ""}, {[]string{"0", "0"}, []string{"1", "1"}, ""},
		{[]string{"1", "2", "1"}, []string{"0", "0", "0"}, ""}, {[]string{"1/2", "3", "1/2"}, []string{"1", "2", "1"}, ""}, {nil, nil, ""}, {[]string{"1"}, nil, ""}, {nil, []string{"1"}, ""}, {[]string{"1", "2"}, []string{"1"}, ""}, {[]string{"1"}, []string{"1", "2"}, ""},
		{[]string{"x"}, []string{"1"}, ""}, {[]string{"1"}, []string{"x"}, ""}, {[]string{"1", "2/4"}, []string{"1", "2"}, ""}, {[]string{"1", "2"}, []string{"1", "-0"}, ""}, {copies("1", 14), copies("1", 14), ""},
	} {
		got, ok := impl.PolyThrough(c.xs, c.ys)
		wantPoly(t, fmt.Sprint("through ", c.xs, " and ", c.ys), got, ok, c.want)
	}
	random := rand.New(rand.NewPCG(15, 16))
	for round := range 200 {
		xs, ys := []string{}, []string{}
		for range 1 + random.IntN(6) {
			x := big.NewRat(int64(random.IntN(40)-20), int64(1+random.IntN(3))).RatString()
			if round%4 == 0 {
				x = randomNumber(random)
			}
			if !slices.Contains(xs, x) {
				xs, ys = append(xs, x), append(ys, big.NewRat(int64(random.IntN(20)-10), int64(1+random.IntN(3))).RatString())
			}
		}
		got, ok := impl.PolyThrough(xs, ys)
		wantRats(t, fmt.Sprint("through ", xs, " and ", ys), got, ok, through(ratsOf(xs), ratsOf(ys)))
	}
}

// From 13 of its values, a polynomial of the degree 12 is found again; 14 values are too many.
func TestPolynomialsAreFoundFromTheirValues(t *testing.T) {
	random := rand.New(rand.NewPCG(17, 18))
	for range 60 {
		p, xs, ys := smallPoly(random, 12), []string{}, []string{}
		for i := range 14 {
			x := impl.NumberOf(int64(i - 6))
			y, ok := impl.EvalPoly(p, x)
			wantText(t, "value", y, ok, textOf(ratsOf(p).at(ratOf(x))))
			xs, ys = append(xs, x), append(ys, y)
		}
		got, ok := impl.PolyThrough(xs[:13], ys[:13])
		wantPoly(t, "through 13 values", got, ok, polyText(p))
		got, ok = impl.PolyThrough(xs, ys)
		wantPoly(t, "through 14 values", got, ok, "")
	}
}

func TestPolyTexts(t *testing.T) {
	for text, p := range map[string][]string{
		"0": {}, "1": {"1"}, "-1": {"-1"}, "5/7": {"5/7"}, "x": {"0", "1"}, "-x": {"0", "-1"}, "2x": {"0", "2"}, "-1/2x": {"0", "-1/2"}, "x+1": {"1", "1"}, "x-1": {"-1", "1"}, "-x-1": {"-1", "-1"}, "x^2": {"0", "0", "1"}, "-x^2+x-1": {"-1", "1", "-1"},
		"10x^3-11/10x+1": {"1", "-11/10", "0", "10"}, "x^10+x^9": append(copies("0", 9), "1", "1"), "x^12": append(copies("0", 12), "1"), "-3/2x^12-1": append(append([]string{"-1"}, copies("0", 11)...), "-3/2"),
		"x^12+x^11+x^10+x^9+x^8+x^7+x^6+x^5+x^4+x^3+x^2+x+1": copies("1", 13), nines(60) + "x-1/" + nines(60): {"-1/" + nines(60), nines(60)},
	} {
		if polyText(p) != text {
			t.Fatalf("the test wants %s for %q", text, p)
		}
		checkPolyText(t, p)
	}
	longest := copies("-"+nines(60)+"/"+tenTo(59), 13)
	checkPolyText(t, longest)
	if text := polyText(longest); len(text) < 1600 {
		t.Errorf("the longest text has only %d bytes", len(text))
	}
	random := rand.New(rand.NewPCG(19, 20))
	for range 500 {
		checkPolyText(t, smallPoly(random, 12))
		checkPolyText(t, greatPoly(random, 12))
	}
	for _, p := range [][]string{{"0"}, {"1", "0"}, {""}, {"2/4"}, {"x"}, {"1", "-0"}, copies("1", 14), {nines(61)}} {
		text, ok := impl.PolyText(p)
		wantText(t, fmt.Sprintf("text of %.60q", p), text, ok, "")
	}
}

func TestTextsThatAreNearlyPolynomials(t *testing.T) {
	bad := []string{
		"", "+", "-", "+x", "+1", "-0", "0x", "1x", "-1x", "x^1", "x^0", "2x^0", "x^02", "x^+2", "x^-1", "x^", "x^x", "x2", "xx", "x*2", "2*x", "2 x", " x", "x ", "x + 1", "X", "y", "x**2", "x^2^2", "x^13", "x^100", "x^99999999999999999999", "x^1_0",
		"x+x", "x-x", "1+1", "1+x", "x+x^2", "x^2+1+x", "x^2+x^2", "x+0", "x-0", "x^2+0x+1", "0+x", "0+0", "00", "x--1", "x+-1", "x-+1", "--x", "-+x", "x+", "x-", "x++1", "2/4x", "4/2x", "x+2/4", "1/1x", "01x", "x+01", "5/1", "1/0x", "/2x", "1/x", "x/2", "-/2x", "x+/",
		"2/3x^2/3", "x^2/1", "1.5x", "1e3x", "none", "x,1", "1,x", "0,", "x;", "x\n", "\tx", "x\x00", "\xff", "x\xff", "х", "ｘ", "²", "x²", "−x", "½x", "٣x", "(x)", "x^(2)", "x^{2}",
		nines(61), nines(61) + "x", "x+1/" + tenTo(60), "1/" + nines(61) + "x^2", "0" + nines(59) + "x",
		strings.Repeat("x+", 100000) + "1", strings.Repeat("9", 100000), strings.Repeat("+", 100000), strings.Repeat("x", 100000), "x^" + strings.Repeat("1", 100000), "x^" + strings.Repeat("0", 100000) + "2", polyText(copies("1", 13)) + "+1", "x^13+" + polyText(copies("1", 13)),
	}
	for _, s := range bad {
		got, ok := impl.ReadPoly(s)
		if ok || len(got) != 0 {
			t.Errorf("ReadPoly of %.60q: got %q, %v", s, got, ok)
		}
	}
}

func TestReadPolyOfAllShortTexts(t *testing.T) {
	t.Parallel()
	check := func(s string) {
		want := isPolyText(s)
		p, ok := impl.ReadPoly(s)
		if ok != want || ok && (!isPolyList(p) || polyText(p) != s) || !ok && len(p) != 0 {
			t.Fatalf("ReadPoly of %q: got %q, %v", s, p, ok)
		}
	}
	textsUpTo("012x^+-/", 6, check)
	textsUpTo("13x^- y", 5, check)
}
