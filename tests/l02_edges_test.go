package tests

import (
	"fmt"
	"math"
	"math/rand/v2"
	"reflect"
	"slices"
	"strings"
	"testing"

	"loop.example/g01120/impl"
)

// Promise 3 at its edges, and promise 1 for the functions of chapter 2.

func TestZeroPolynomials(t *testing.T) {
	p := poly("2x^2-1")
	for _, zero := range [][]string{nil, {}} {
		for name, c := range map[string]struct {
			apply      func(a, b []string) ([]string, bool)
			zeroFirst  string
			zeroSecond string
			zeroTwice  string
		}{
			"add": {impl.AddPolys, "2x^2-1", "2x^2-1", "0"}, "sub": {impl.SubPolys, "-2x^2+1", "2x^2-1", "0"}, "mul": {impl.MulPolys, "0", "0", "0"},
			"gcd": {impl.GcdPolys, "x^2-1/2", "x^2-1/2", "0"}, "compose": {impl.ComposePolys, "0", "-1", "0"},
		} {
			got, ok := c.apply(zero, p)
			wantPoly(t, name+" with 0 first", got, ok, c.zeroFirst)
			got, ok = c.apply(p, zero)
			wantPoly(t, name+" with 0 second", got, ok, c.zeroSecond)
			got, ok = c.apply(zero, zero)
			wantPoly(t, name+" with 0 twice", got, ok, c.zeroTwice)
		}
		quotient, rest, ok := impl.DividePolys(zero, p)
		wantPoly(t, "quotient of 0", quotient, ok, "0")
		wantPoly(t, "remainder of 0", rest, ok, "0")
		for _, a := range [][]string{zero, {"1"}, p} {
			quotient, rest, ok = impl.DividePolys(a, zero)
			wantPoly(t, "quotient by 0", quotient, ok, "")
			wantPoly(t, "remainder by 0", rest, ok, "")
			for _, pair := range [][2][]string{{a, zero}, {zero, a}} {
				first, second, ok := impl.BezoutPolys(pair[0], pair[1])
				wantPoly(t, "s with 0", first, ok, "")
				wantPoly(t, "t with 0", second, ok, "")
				value, ok := impl.ResultantOf(pair[0], pair[1])
				wantText(t, "resultant with 0", value, ok, "")
			}
		}
		for name, apply := range map[string]func(p []string) ([]string, bool){"derivative": impl.DerivativeOf, "reverse": impl.ReversePoly} {
			got, ok := apply(zero)
			wantPoly(t, name+" of 0", got, ok, "0")
		}
		got, ok := impl.SquareFreeOf(zero)
		wantPoly(t, "square-free part of 0", got, ok, "")
		value, ok := impl.EvalPoly(zero, "-5/7")
		wantText(t, "value of 0", value, ok, "0")
		for _, n := range []int64{0, 1, 200} {
			got, ok = impl.PowerOfX(n, zero)
			wantPoly(t, "power of x for 0", got, ok, "")
		}
		text, ok := impl.PolyText(zero)
		wantText(t, "text of 0", text, ok, "0")
		if !impl.ValidPoly(zero) {
			t.Error("0 is a polynomial")
		}
	}
	got, ok := impl.ReadPoly("0")
	wantPoly(t, "reading 0", got, ok, "0")
}

func TestLeadingCoefficientsThatCancel(t *testing.T) {
	for _, c := range []struct{ a, b, sum, difference string }{
		{"x^2+x", "-x^2+1", "x+1", "2x^2+x-1"}, {"x^2+x", "x^2+1", "2x^2+x+1", "x-1"}, {"x^12+1", "x^12+1", "2x^12+2", "0"}, {"x^12+1", "-x^12-1", "0", "2x^12+2"}, {"x^12+x^11+x", "x^12+x^11", "2x^12+2x^11+x", "x"},
		{"1/2x", "1/2x", "x", "0"}, {"3", "-3", "0", "6"}, {"x^3", "x^5", "x^5+x^3", "-x^5+x^3"}, {"x^5", "x^3", "x^5+x^3", "x^5-x^3"},
	} {
		got, ok := impl.AddPolys(poly(c.a), poly(c.b))
		wantPoly(t, c.a+" plus "+c.b, got, ok, c.sum)
		got, ok = impl.SubPolys(poly(c.a), poly(c.b))
		wantPoly(t, c.a+" minus "+c.b, got, ok, c.difference)
	}
}

func TestDegreesAtTheLimit(t *testing.T) {
	for _, c := range []struct{ a, b, want string }{
		{"x^6+1", "x^6-1", "x^12-1"}, {"x^7", "x^6", ""}, {"x^12", "1/2", "1/2x^12"}, {"x^12", "x", ""}, {"1", "x^12", "x^12"}, {"x^12", "x^12", ""},
	} {
		got, ok := impl.MulPolys(poly(c.a), poly(c.b))
		wantPoly(t, c.a+" times "+c.b, got, ok, c.want)
	}
	for _, c := range []struct{ p, q, want string }{
		{"x^3", "x^4", "x^12"}, {"x^4", "x^3", "x^12"}, {"x^12", "-x", "x^12"}, {"x", "x^12-1", "x^12-1"}, {"x^12+x", "x", "x^12+x"}, {"x^2", "x^7", ""}, {"x^7", "x^2", ""}, {"x^12", "x^2", ""}, {"x^2", "x^12", ""}, {"x^12", "x^12", ""},
		{"x^12", "2", "4096"}, {"x^12-4096", "2", "0"}, {"7", "x^12", "7"}, {"x^2+1", "1/2", "5/4"}, {"x^3-x^2", "x+1", "x^3+2x^2+x"}, {"x^2", "x^6+x", "x^12+2x^7+x^2"},
	} {
		got, ok := impl.ComposePolys(poly(c.p), poly(c.q))
		wantPoly(t, c.q+" in "+c.p, got, ok, c.want)
	}
	long, tooLong := append(copies("0", 12), "1"), append(copies("0", 13), "1")
	for _, call := range polyCalls() {
		for _, bad := range [][]string{tooLong, copies("1", 14), append(copies("1", 13), "0"), copies("1", 5000)} {
			wantFailure(t, call.name, call.run(bad, long, "1", 1))
			if call.two {
				wantFailure(t, call.name, call.run(long, bad, "1", 1))
			}
		}
	}
	quotient, rest, ok := impl.DividePolys(long, poly("2"))
	wantPoly(t, "quotient of the degree 12", quotient, ok, "1/2x^12")
	wantPoly(t, "remainder by a number", rest, ok, "0")
	checkDivision(t, copies("1", 13), append(copies("-1/2", 12), "3"))
}

func TestDigitsOfPolynomials(t *testing.T) {
	most, half := nines(60), "4"+nines(59)
	for _, c := range []struct {
		name  string
		apply func(a, b []string) ([]string, bool)
		a, b  []string
		want  string
	}{
		{"add", impl.AddPolys, []string{"1", most}, []string{"1"}, most + "x+2"},
		{"add", impl.AddPolys, []string{most, "1"}, []string{"1"}, ""},
		{"add", impl.AddPolys, []string{"0", most}, []string{"0", "1"}, ""},
		{"add", impl.AddPolys, []string{"0", most}, []string{"5", "-" + most}, "5"},
		{"add", impl.AddPolys, []string{"1/" + tenTo(30)}, []string{"1/1" + strings.Repeat("0", 29) + "1"}, ""},
		{"sub", impl.SubPolys, []string{"1", "-" + most}, []string{"0", "1"}, ""},
		{"sub", impl.SubPolys, []string{"1", most}, []string{"0", most}, "1"},
		{"sub", impl.SubPolys, []string{"0", most}, []string{"0", half}, "5" + strings.Repeat("0", 59) + "x"},
		{"mul", impl.MulPolys, []string{"0", tenTo(30)}, []string{tenTo(29)}, tenTo(59) + "x"},
		{"mul", impl.MulPolys, []string{"0", tenTo(30)}, []string{tenTo(30)}, ""},
		{"mul", impl.MulPolys, []string{tenTo(30), "1"}, []string{"-" + tenTo(30), "1"}, ""},
		{"mul", impl.MulPolys, []string{"1/" + tenTo(30)}, []string{"1/" + tenTo(30), "1"}, ""},
		{"mul", impl.MulPolys, []string{most, "1"}, []string{"-" + most, "1"}, ""},
		{"compose", impl.ComposePolys, []string{"0", "0", "1"}, []string{tenTo(29)}, tenTo(58)},
		{"compose", impl.ComposePolys, []string{"0", "0", "1"}, []string{tenTo(30)}, ""},
		{"compose", impl.ComposePolys, []string{"5", most, "-1"}, []string{most}, "5"},
		{"compose", impl.ComposePolys, []string{most, "1"}, []string{"1", "1"}, ""},
		{"gcd", impl.GcdPolys, []string{"1", most}, nil, "x+1/" + most},
		{"gcd", impl.GcdPolys, []string{most, tenTo(59)}, []string{most, tenTo(59)}, "x+" + most + "/" + tenTo(59)},
		{"gcd", impl.GcdPolys, []string{tenTo(30), "1/" + tenTo(29)}, nil, "x+" + tenTo(59)},
		{"gcd", impl.GcdPolys, []string{tenTo(30), "1/" + tenTo(30)}, nil, ""},
		{"gcd", impl.GcdPolys, []string{"1/" + tenTo(30), tenTo(30)}, nil, ""},
		{"gcd", impl.GcdPolys, []string{"1/" + tenTo(30), "0", tenTo(30)}, []string{"1", tenTo(20)}, "1"},
		{"gcd", impl.GcdPolys, copies(most, 13), copies("1/"+most, 13), polyText(copies("1", 13))},
	} {
		got, ok := c.apply(c.a, c.b)
		wantPoly(t, fmt.Sprint(c.name, " ", c.a, " and ", c.b), got, ok, c.want)
	}
}

func TestDigitsOfQuotientsAndFactors(t *testing.T) {
	most := nines(60)
	for _, c := range [][2][]string{
		{{"0", tenTo(30)}, {"1/" + tenTo(29)}}, {{"0", tenTo(30)}, {"1/" + tenTo(30)}}, {{"0", "0", "1"}, {"1", tenTo(29)}}, {{"0", "0", "1"}, {"1", tenTo(30)}}, {{"0", "0", "1"}, {tenTo(30), "1"}}, {{"0", "0", "1"}, {tenTo(29), "1"}},
		{{tenTo(59), "1"}, {"-1", "1"}}, {{most, "1"}, {"-1", "1"}}, {{"1", most}, {most, "1"}}, {{most}, {most}}, {{most}, {"1/" + most}}, {{"1/" + most}, {"0", "1"}}, {{"1", "1"}, {"2", "1/" + most}},
		{{tenTo(29), "1"}, {"-" + tenTo(29), "1"}}, {{tenTo(59), "1"}, {"-" + tenTo(59), "1"}}, {copies(most, 13), copies("-1/"+most, 7)}, {{"1", "0", tenTo(19)}, {"0", tenTo(19)}}, {{"1", "0", tenTo(20)}, {"0", tenTo(20)}},
		{{"1/" + tenTo(20), "1"}, {"1/" + tenTo(20), "0", "1"}}, {{"1/" + tenTo(30), "1"}, {"2/" + nines(30), "0", "1"}},
		{{"1", tenTo(59)}, {"0", "1/" + tenTo(59)}}, {{"1", "0", tenTo(29)}, {"0", "1/" + tenTo(29)}}, {{"1", "0", tenTo(30)}, {"0", "1/" + tenTo(29)}}, {{"1", "0", tenTo(30)}, {"0", "1/" + tenTo(30)}},
	} {
		checkDivision(t, c[0], c[1])
		checkDivision(t, c[1], c[0])
	}
	value, ok := impl.ResultantOf([]string{tenTo(29)}, []string{"1", "0", "1"})
	wantText(t, "resultant with 59 digits", value, ok, tenTo(58))
	value, ok = impl.ResultantOf([]string{tenTo(30)}, []string{"1", "0", "1"})
	wantText(t, "resultant with 61 digits", value, ok, "")
	value, ok = impl.ResultantOf([]string{"1/" + tenTo(30)}, []string{"1", "0", "1"})
	wantText(t, "resultant with 61 digits below", value, ok, "")
	value, ok = impl.ResultantOf([]string{"0", tenTo(59)}, []string{"0", "1/" + tenTo(59)})
	wantText(t, "resultant 0 of great polynomials", value, ok, "0")
	value, ok = impl.ResultantOf([]string{"1", tenTo(59)}, []string{"1", "1/" + tenTo(59)})
	wantText(t, "resultant of great polynomials", value, ok, "")
}

func TestDigitsOfOtherResults(t *testing.T) {
	most, half := nines(60), "4"+nines(59)
	for _, c := range []struct {
		p    []string
		want string
	}{
		{[]string{"1", most}, most}, {[]string{"1", "0", half}, "9" + nines(58) + "8x"}, {[]string{"1", "0", most}, ""}, {[]string{"1", "0", "1/" + tenTo(59)}, "1/5" + strings.Repeat("0", 58) + "x"}, {append(copies("0", 12), most), ""}, {append(copies("0", 12), "1/12"), "x^11"},
		{append(copies("0", 12), "1"), "12x^11"}, {[]string{"7"}, "0"}, {copies("1", 3), "2x+1"},
	} {
		got, ok := impl.DerivativeOf(c.p)
		wantPoly(t, fmt.Sprint("derivative of ", c.p), got, ok, c.want)
	}
	for _, c := range []struct {
		p       []string
		x, want string
	}{
		{[]string{"0", "0", "1"}, tenTo(29), tenTo(58)}, {[]string{"0", "0", "1"}, tenTo(30), ""}, {[]string{"0", "0", "1"}, "1/" + tenTo(30), ""}, {[]string{"0", "0", "1"}, "-1/" + tenTo(29), "1/" + tenTo(58)}, {[]string{"7", most, "-1"}, most, "7"},
		{[]string{most, "1"}, "1", ""}, {[]string{most, "1"}, "-1", nines(59) + "8"}, {[]string{most}, "1/3", most}, {append(copies("0", 12), tenTo(59)), "0", "0"}, {append(copies("0", 12), tenTo(59)), "1/10", tenTo(47)}, {[]string{"5", "1"}, "-5", "0"},
		{[]string{"1", "2", "3"}, "x", ""}, {[]string{"1", "2", "3"}, "", ""}, {[]string{"1"}, "2/4", ""}, {[]string{"1"}, nines(61), ""}, {nil, "-0", ""}, {nil, "", ""}, {[]string{"1", "0"}, "1", ""}, {[]string{"x"}, "1", ""},
	} {
		got, ok := impl.EvalPoly(c.p, c.x)
		wantText(t, fmt.Sprint("value of ", c.p, " at ", c.x), got, ok, c.want)
	}
	for _, c := range []struct {
		p    []string
		want string
	}{
		{[]string{"1", most}, "x+1/" + most}, {[]string{tenTo(30), "1/" + tenTo(30)}, ""}, {[]string{"1", "0", most}, "x^2+1/" + most}, {[]string{tenTo(58), "2" + strings.Repeat("0", 29), "1"}, "x+" + tenTo(29)}, {[]string{"0", "0", "1/" + most}, "x"}, {[]string{most}, "1"},
	} {
		got, ok := impl.SquareFreeOf(c.p)
		wantPoly(t, fmt.Sprint("square-free part of ", c.p), got, ok, c.want)
	}
}

func TestReversedPolynomials(t *testing.T) {
	for p, want := range map[string]string{
		"x^3-2x": "-2x^2+1", "x": "1", "x^12": "1", "5": "5", "x+2": "2x+1", "x^2+2x+3": "3x^2+2x+1", "x^12+1": "x^12+1", "x^5-1/2x^4": "-1/2x+1", "-x^12+3x^11": "3x-1", "x^4+x^2": "x^2+1",
	} {
		got, ok := impl.ReversePoly(poly(p))
		wantPoly(t, "reversed "+p, got, ok, want)
	}
}

func TestPowersOfXAtTheEdge(t *testing.T) {
	for _, c := range []struct {
		n    int64
		p    []string
		want string
	}{
		{0, poly("x^2-x-1"), "1"}, {0, poly("x"), "1"}, {0, poly("x-5"), "1"}, {0, poly("7"), "0"}, {1, poly("7"), "0"}, {200, poly("-7/3"), "0"}, {1, poly("x"), "0"}, {200, poly("x"), "0"}, {1, poly("x^2"), "x"}, {5, poly("x^2-x-1"), "5x+3"},
		{11, poly("x^12+5"), "x^11"}, {12, poly("x^12+5"), "-5"}, {200, poly("x^12-1"), "x^8"}, {200, poly("2x^12-1"), "1/65536x^8"}, {200, poly("x-1"), "1"}, {199, poly("x+1"), "-1"}, {199, poly("2x-1"), "1/803469022129495137770981046170581301261101496891396417650688"}, {200, poly("2x-1"), ""},
		{201, poly("x-1"), ""}, {201, poly("7"), ""}, {-1, poly("x-1"), ""}, {math.MaxInt64, poly("x"), ""}, {math.MinInt64, poly("x"), ""}, {1, nil, ""}, {0, []string{"0"}, ""}, {0, []string{"1", "x"}, ""}, {0, []string{"1", "0"}, ""},
		{59, poly("x-10"), tenTo(59)}, {60, poly("x-10"), ""}, {59, poly("10x-1"), "1/" + tenTo(59)}, {60, poly("10x-1"), ""}, {200, poly("10x-1"), ""}, {1, []string{nines(60), "1"}, "-" + nines(60)}, {2, []string{nines(60), "1"}, ""}, {1, []string{"-1", nines(60)}, "1/" + nines(60)}, {2, []string{"-1", nines(60)}, ""},
		{2, []string{"1/" + nines(60), "0", "1"}, "-1/" + nines(60)}, {3, []string{"1/" + nines(60), "0", "1"}, "-1/" + nines(60) + "x"}, {118, []string{"-1/10", "0", "1"}, "1/" + tenTo(59)}, {119, []string{"-1/10", "0", "1"}, "1/" + tenTo(59) + "x"}, {120, []string{"-1/10", "0", "1"}, ""},
		{13, []string{"-" + nines(60) + "/" + tenTo(59), "0", "0", "0", "0", "0", "0", "0", "0", "0", "0", "0", "1"}, nines(60) + "/" + tenTo(59) + "x"}, {200, copies(nines(60), 13), "x^5"}, {200, copies("1/"+nines(60), 13), "x^5"}, {13, copies("-1/"+tenTo(59), 13), "1"},
		{47, append([]string{"-1/" + tenTo(19)}, append(copies("0", 11), "1")...), "1/" + tenTo(57) + "x^11"}, {48, append([]string{"-1/" + tenTo(19)}, append(copies("0", 11), "1")...), ""}, {59, append([]string{"-1/" + tenTo(14)}, append(copies("0", 11), "1")...), "1/" + tenTo(56) + "x^11"},
	} {
		got, ok := impl.PowerOfX(c.n, c.p)
		wantPoly(t, fmt.Sprint("power ", c.n, " of x for ", c.p), got, ok, c.want)
	}
}

func TestPolyThroughAtTheEdge(t *testing.T) {
	most := nines(60)
	for _, c := range []struct {
		xs, ys []string
		want   string
	}{
		{[]string{most}, []string{"-" + most}, "-" + most}, {[]string{"0", "1"}, []string{"-1", most}, ""}, {[]string{"0", "1"}, []string{"1", most}, nines(59) + "8x+1"}, {[]string{"0", most}, []string{"0", "1"}, "1/" + most + "x"}, {[]string{"0", most}, []string{"0", "1/" + most}, ""},
		{[]string{"1/" + most, "-1/" + most}, []string{"1", "1"}, "1"}, {[]string{"1/" + most, "-1/" + most, "0"}, []string{"1", "-1", "0"}, most + "x"}, {[]string{"0", "1/" + tenTo(59)}, []string{"0", "11"}, ""}, {[]string{most, most}, []string{"1", "2"}, ""},
	} {
		got, ok := impl.PolyThrough(c.xs, c.ys)
		wantPoly(t, fmt.Sprint("through ", c.xs, " and ", c.ys), got, ok, c.want)
	}
	for i := range 13 {
		for k := range i {
			xs := []string{}
			for n := range 13 {
				xs = append(xs, impl.NumberOf(int64(n)))
			}
			xs[i] = xs[k]
			got, ok := impl.PolyThrough(xs, copies("1", 13))
			wantPoly(t, fmt.Sprint("through ", xs), got, ok, "")
		}
	}
}

// A polyCall calls a function of the chapter with those of the arguments that it takes.
type polyCall struct {
	name string
	two  bool
	run  func(a, b []string, x string, n int64) []any
}

func polyCalls() []polyCall {
	two := func(x, y any) []any { return []any{x, y} }
	three := func(x, y, z any) []any { return []any{x, y, z} }
	return []polyCall{
		{"AddPolys", true, func(a, b []string, x string, n int64) []any { return two(impl.AddPolys(a, b)) }},
		{"SubPolys", true, func(a, b []string, x string, n int64) []any { return two(impl.SubPolys(a, b)) }},
		{"MulPolys", true, func(a, b []string, x string, n int64) []any { return two(impl.MulPolys(a, b)) }},
		{"DividePolys", true, func(a, b []string, x string, n int64) []any { return three(impl.DividePolys(a, b)) }},
		{"GcdPolys", true, func(a, b []string, x string, n int64) []any { return two(impl.GcdPolys(a, b)) }},
		{"BezoutPolys", true, func(a, b []string, x string, n int64) []any { return three(impl.BezoutPolys(a, b)) }},
		{"ResultantOf", true, func(a, b []string, x string, n int64) []any { return two(impl.ResultantOf(a, b)) }},
		{"EvalPoly", false, func(a, b []string, x string, n int64) []any { return two(impl.EvalPoly(a, x)) }},
		{"ComposePolys", true, func(a, b []string, x string, n int64) []any { return two(impl.ComposePolys(a, b)) }},
		{"DerivativeOf", false, func(a, b []string, x string, n int64) []any { return two(impl.DerivativeOf(a)) }},
		{"SquareFreeOf", false, func(a, b []string, x string, n int64) []any { return two(impl.SquareFreeOf(a)) }},
		{"ReversePoly", false, func(a, b []string, x string, n int64) []any { return two(impl.ReversePoly(a)) }},
		{"PowerOfX", false, func(a, b []string, x string, n int64) []any { return two(impl.PowerOfX(n, a)) }},
		{"PolyText", false, func(a, b []string, x string, n int64) []any { return two(impl.PolyText(a)) }},
	}
}

// wantFailure checks that the last result is false, and all others are zero values.
func wantFailure(t *testing.T, what string, results []any) {
	t.Helper()
	if results[len(results)-1] != false {
		t.Errorf("%s: does not fail: %.100v", what, results)
	}
	wantZeroOnFailure(t, what, results)
}

func hostileLists() [][]string {
	return [][]string{
		nil, {}, {"0"}, {"1"}, {"-1/2"}, {"0", "1"}, {"1", "0"}, {"0", "0"}, {"1", "1"}, {"-1", "0", "1"}, {"1", "-3/2", "1"}, {"0", "0", "0", "1"}, {""}, {"1", ""}, {"x"}, {"2/4", "1"}, {"1", "-0"}, {"1", "1/0"}, {"\xff", "1"}, {"none"}, {"x^2-1"},
		copies("1", 13), copies("0", 13), append(copies("0", 12), "-2"), copies("1", 14), copies("1", 60), copies("1", 61), copies("0", 5000), {nines(60), "-" + nines(60)}, {nines(61), "1"}, {strings.Repeat("9", 1000000)}, {"1/" + nines(60), nines(60) + "/" + tenTo(59)},
		copies(nines(60)+"/"+tenTo(59), 13), {"1", "2/" + nines(60), "3/" + tenTo(59), "1/" + nines(59)}, {"1/2", "1/3", "1/5", "1/7", "1/11", "1/13", "1/17", "1/19", "1/23", "1/29", "1/31", "1/37", "1/41"},
	}
}

func TestPolynomialFunctionsReturnForAllArguments(t *testing.T) {
	t.Parallel()
	numbers := []int64{math.MinInt64, -1, 0, 1, 2, 12, 13, 60, 199, 200, 201, math.MaxInt64 - 1, math.MaxInt64}
	xs := []string{"0", "1", "-1", "1/2", "", "x", "-0", "2/4", nines(60), "-1/" + nines(60), nines(61), "\xff", strings.Repeat("1", 100000)}
	lists, valid := hostileLists(), []bool{}
	for _, a := range lists {
		valid = append(valid, isPolyList(a))
	}
	for k, a := range lists {
		list, before := spare(a)
		for i, b := range lists {
			other, otherBefore := spare(b)
			for _, call := range polyCalls() {
				x, n := xs[i%len(xs)], numbers[i%len(numbers)]
				what := fmt.Sprintf("%s of %.60q, %.60q, %.20q, %d", call.name, a, b, x, n)
				first, second := call.run(list, other, x, n), call.run(slices.Clone(a), slices.Clone(b), x, n)
				if !reflect.DeepEqual(first, second) {
					t.Errorf("%s: %v, then %v", what, first, second)
				}
				wantZeroOnFailure(t, what, first)
				if !valid[k] || call.two && !valid[i] {
					wantFailure(t, what, first)
				}
				wantPolysOfTheirOwn(t, what, first, second)
			}
			wantUntouched(t, "first list", list, before)
			wantUntouched(t, "second list", other, otherBefore)
		}
		if impl.ValidPoly(list) != valid[k] {
			t.Errorf("ValidPoly of %.60q", a)
		}
		wantUntouched(t, "ValidPoly", list, before)
	}
}

// All coefficients have 60 digits above and below, and no common divisors, so that numbers on the way have thousands of digits.
func TestGreatestPolynomials(t *testing.T) {
	t.Parallel()
	random := rand.New(rand.NewPCG(21, 22))
	list := func(count int) []string {
		p := []string{}
		for len(p) < count {
			if c := randomNumber(random); len(c) > 118 {
				p = append(p, c)
			}
		}
		return p
	}
	for degree := range 5 {
		checkAlone(t, list(degree+2))
		checkDivision(t, list(degree+2), list(4))
	}
	a, b := list(13), list(12)
	for _, call := range polyCalls() {
		results := call.run(a, b, b[0], 200)
		wantZeroOnFailure(t, call.name, results)
	}
	common, ok := impl.GcdPolys(a, b)
	wantPoly(t, "gcd", common, ok, "1")
	got, ok := impl.PolyThrough(a, list(13))
	wantZeroOnFailure(t, "PolyThrough", []any{got, ok})
}

// wantPolysOfTheirOwn checks that all lists among results are polynomials, and writes over all memory of each of them; the arguments and the results of the second call, which are equal, must not change by that.
func wantPolysOfTheirOwn(t *testing.T, what string, results, again []any) {
	t.Helper()
	for i, r := range results {
		list, isList := r.([]string)
		if !isList {
			continue
		}
		if !isPolyList(list) {
			t.Errorf("%s: %q is no polynomial", what, list)
		}
		for k := range list[:cap(list)] {
			list[:cap(list)][k] = "written"
		}
		for k := i + 1; k < len(results); k++ {
			if !reflect.DeepEqual(results[k], again[k]) {
				t.Errorf("%s: results share memory", what)
			}
		}
		if other := again[i].([]string); slices.Contains(other, "written") {
			t.Errorf("%s: results of two calls share memory", what)
		}
	}
}

func TestPolyThroughReturnsForAllArguments(t *testing.T) {
	for _, a := range hostileLists() {
		list, before := spare(a)
		for _, b := range hostileLists() {
			other, otherBefore := spare(b)
			what := fmt.Sprintf("PolyThrough of %.60q and %.60q", a, b)
			got, ok := impl.PolyThrough(list, other)
			again, okAgain := impl.PolyThrough(slices.Clone(a), slices.Clone(b))
			if ok != okAgain || !slices.Equal(got, again) {
				t.Errorf("%s: %q, %v, then %q, %v", what, got, ok, again, okAgain)
			}
			if ok && (len(a) != len(b) || len(a) == 0 || len(a) > 13) {
				t.Errorf("%s does not fail", what)
			}
			wantZeroOnFailure(t, what, []any{got, ok})
			wantPolysOfTheirOwn(t, what, []any{got, ok}, []any{again, okAgain})
			wantUntouched(t, "first list", list, before)
			wantUntouched(t, "second list", other, otherBefore)
		}
	}
}

func TestPolynomialsWithThemselves(t *testing.T) {
	p, before := spare(poly("2x^3-x+1/2"))
	got, ok := impl.AddPolys(p, p)
	wantPoly(t, "sum", got, ok, "4x^3-2x+1")
	got, ok = impl.SubPolys(p, p)
	wantPoly(t, "difference", got, ok, "0")
	got, ok = impl.GcdPolys(p, p)
	wantPoly(t, "gcd", got, ok, "x^3-1/2x+1/4")
	quotient, rest, ok := impl.DividePolys(p, p)
	wantPoly(t, "quotient", quotient, ok, "1")
	wantPoly(t, "remainder", rest, ok, "0")
	s, r, ok := impl.BezoutPolys(p, p)
	wantPoly(t, "s", s, ok, "0")
	wantPoly(t, "t", r, ok, "1/2")
	wantUntouched(t, "all of them", p, before)
}

func TestPolynomialsThatAreReadShareNoMemory(t *testing.T) {
	first, _ := impl.ReadPoly("x^2-3/2x+1")
	second, _ := impl.ReadPoly("x^2-3/2x+1")
	wantPolysOfTheirOwn(t, "ReadPoly", []any{first, true}, []any{second, true})
	third, ok := impl.ReadPoly("x^2-3/2x+1")
	wantPoly(t, "read again", third, ok, "x^2-3/2x+1")
}
