package tests

import (
	"fmt"
	"math"
	"reflect"
	"slices"
	"strings"
	"testing"

	"loop.example/g01120/impl"
)

// Promise 2 at its edges, and promise 1 for the functions of chapter 1.

func TestDigitsOfResults(t *testing.T) {
	most, least := nines(60), "-"+nines(60)
	half := "4" + nines(59) // with 60 digits: twice this and 1 are still 60 nines
	cases := []struct {
		name       string
		apply      func(a, b string) (string, bool)
		a, b, want string
	}{
		{"add", impl.AddNumbers, most, "0", most},
		{"add", impl.AddNumbers, nines(59) + "8", "1", most},
		{"add", impl.AddNumbers, most, "1", ""},
		{"add", impl.AddNumbers, "1", most, ""},
		{"add", impl.AddNumbers, least, "-1", ""},
		{"add", impl.AddNumbers, least, "1", "-" + nines(59) + "8"},
		{"add", impl.AddNumbers, most, least, "0"},
		{"add", impl.AddNumbers, half, "5" + strings.Repeat("0", 59), most},
		{"add", impl.AddNumbers, most, "1/2", ""},
		{"add", impl.AddNumbers, "1/" + tenTo(30), "1/" + nines(30), "1" + nines(30) + "/" + nines(30) + strings.Repeat("0", 30)},
		{"add", impl.AddNumbers, "1/" + tenTo(30), "1/1" + strings.Repeat("0", 29) + "1", ""},
		{"add", impl.AddNumbers, "1/" + most, "1/" + most, "2/" + most},
		{"add", impl.AddNumbers, "1/" + tenTo(59), "1/" + tenTo(59), "1/5" + strings.Repeat("0", 58)},
		{"add", impl.AddNumbers, most + "/2", most + "/2", most},
		{"sub", impl.SubNumbers, least, "0", least},
		{"sub", impl.SubNumbers, "0", most, least},
		{"sub", impl.SubNumbers, least, "1", ""},
		{"sub", impl.SubNumbers, most, "-1", ""},
		{"sub", impl.SubNumbers, most + "/" + tenTo(59), most + "/" + tenTo(59), "0"},
		{"sub", impl.SubNumbers, most + "/2", "1/2", half},
		{"mul", impl.MulNumbers, tenTo(30), tenTo(29), tenTo(59)},
		{"mul", impl.MulNumbers, tenTo(30), tenTo(30), ""},
		{"mul", impl.MulNumbers, "-" + tenTo(30), tenTo(30), ""},
		{"mul", impl.MulNumbers, "1/" + tenTo(30), "1/" + tenTo(30), ""},
		{"mul", impl.MulNumbers, "1/" + tenTo(30), "-1/" + tenTo(29), "-1/" + tenTo(59)},
		{"mul", impl.MulNumbers, tenTo(59) + "/" + most, most + "/" + tenTo(59), "1"},
		{"mul", impl.MulNumbers, tenTo(59), "1/" + tenTo(59), "1"},
		{"mul", impl.MulNumbers, most, "2/3", "6" + strings.Repeat("6", 59)},
		{"mul", impl.MulNumbers, most, "0", "0"},
		{"mul", impl.MulNumbers, "-1/" + most, "0", "0"},
		{"div", impl.DivNumbers, least, most, "-1"},
		{"div", impl.DivNumbers, most + "/" + tenTo(59), "-" + most + "/" + tenTo(59), "-1"},
		{"div", impl.DivNumbers, tenTo(59), "1/9", "9" + strings.Repeat("0", 59)},
		{"div", impl.DivNumbers, tenTo(59), "1/10", ""},
		{"div", impl.DivNumbers, "1/10", tenTo(59), ""},
		{"div", impl.DivNumbers, "1", least, "-1/" + most},
		{"div", impl.DivNumbers, "0", least, "0"},
		{"div", impl.DivNumbers, most, "0", ""},
		{"div", impl.DivNumbers, "0", "0", ""},
		{"div", impl.DivNumbers, "1/2", "0", ""},
		{"gcd", impl.GcdOf, "0", "0", "0"},
		{"gcd", impl.GcdOf, "0", least, most},
		{"gcd", impl.GcdOf, least, "0", most},
		{"gcd", impl.GcdOf, least, most, most},
		{"gcd", impl.GcdOf, "12", "-18", "6"},
		{"gcd", impl.GcdOf, "-1", tenTo(59), "1"},
		{"gcd", impl.GcdOf, "1/2", "1", ""},
		{"gcd", impl.GcdOf, "1", "1/2", ""},
	}
	for _, c := range cases {
		got, ok := c.apply(c.a, c.b)
		wantText(t, c.name+" "+c.a+" and "+c.b, got, ok, c.want)
	}
}

func TestInvalidOperands(t *testing.T) {
	two := map[string]func(a, b string) (string, bool){
		"add": impl.AddNumbers, "sub": impl.SubNumbers, "mul": impl.MulNumbers, "div": impl.DivNumbers, "gcd": impl.GcdOf,
	}
	for _, bad := range []string{"", "-", "x", "2/4", "+1", "-0", "5/1", "01", "1/0", "0/3", nines(61), "1/" + tenTo(60), "\xff", strings.Repeat("1", 1000000)} {
		for name, apply := range two {
			got, ok := apply(bad, "1")
			wantText(t, name+" with no number first", got, ok, "")
			got, ok = apply("1", bad)
			wantText(t, name+" with no number second", got, ok, "")
		}
		sign, ok := impl.CompareNumbers(bad, "1")
		wantInt(t, "compare", sign, ok, 0, false)
		sign, ok = impl.CompareNumbers("1", bad)
		wantInt(t, "compare", sign, ok, 0, false)
		got, ok := impl.FloorOf(bad)
		wantText(t, "floor", got, ok, "")
		got, ok = impl.PowerOf(bad, 0)
		wantText(t, "power", got, ok, "")
		rest, ok := impl.RemainderOf(bad, 1)
		wantInt(t, "remainder", rest, ok, 0, false)
	}
}

func TestCompareOfNearNumbers(t *testing.T) {
	nearAbove, nearBelow := "1"+strings.Repeat("0", 58)+"1", nines(59)
	first, second := nearAbove+"/"+tenTo(59), tenTo(59)+"/"+nearBelow
	for _, c := range []struct {
		a, b string
		want int64
	}{
		{first, second, -1}, {second, first, 1}, {first, first, 0}, {"-" + first, "-" + second, 1}, {"-" + second, first, -1},
		{"0", "0", 0}, {"0", "-1/" + nines(60), 1}, {"0", "1/" + nines(60), -1}, {"-1/2", "-1/3", -1}, {"-" + nines(60), nines(60), -1},
	} {
		got, ok := impl.CompareNumbers(c.a, c.b)
		wantInt(t, "compare "+c.a+" and "+c.b, got, ok, c.want, true)
	}
}

func TestFloorsAtTheEdge(t *testing.T) {
	for a, want := range map[string]string{
		"0": "0", "1/2": "0", "-1/2": "-1", "7/2": "3", "-7/2": "-4", "-4": "-4", "1/" + nines(60): "0", "-1/" + nines(60): "-1",
		nines(60): nines(60), "-" + nines(60): "-" + nines(60), nines(60) + "/2": "4" + nines(59), "-" + nines(60) + "/2": "-5" + strings.Repeat("0", 59),
		"-" + nines(60) + "/" + tenTo(59): "-10",
	} {
		got, ok := impl.FloorOf(a)
		wantText(t, "floor of "+a, got, ok, want)
	}
}

func TestPowersAtTheEdge(t *testing.T) {
	for _, c := range []struct {
		a    string
		n    int64
		want string
	}{
		{"0", 0, "1"}, {"0", 1, "0"}, {"0", 60, "0"}, {"1", 60, "1"}, {"-1", 60, "1"}, {"-1", 59, "-1"}, {"-2/3", 0, "1"}, {"-2/3", 3, "-8/27"},
		{"10", 59, tenTo(59)}, {"10", 60, ""}, {"1/10", 59, "1/" + tenTo(59)}, {"1/10", 60, ""}, {"-1/10", 59, "-1/" + tenTo(59)},
		{nines(60), 0, "1"}, {nines(60), 1, nines(60)}, {nines(60), 2, ""}, {nines(60), 60, ""}, {"-" + nines(30), 2, nines(29) + "8" + strings.Repeat("0", 29) + "1"},
		{"2", -1, ""}, {"2", 61, ""}, {"1", 61, ""}, {"0", -1, ""}, {"1", math.MaxInt64, ""}, {"1", math.MinInt64, ""},
	} {
		got, ok := impl.PowerOf(c.a, c.n)
		wantText(t, fmt.Sprint("power of ", c.a, " and ", c.n), got, ok, c.want)
	}
}

func TestRemaindersAtTheEdge(t *testing.T) {
	for _, c := range []struct {
		a    string
		m    int64
		want int64
		ok   bool
	}{
		{"-7", 3, 2, true}, {"7", 3, 1, true}, {"-6", 3, 0, true}, {"0", 3, 0, true}, {"0", 1, 0, true}, {nines(60), 1, 0, true}, {"-" + nines(60), 1, 0, true},
		{nines(60), 1000000000, 999999999, true}, {"-" + nines(60), 1000000000, 1, true}, {"-1", 1000000000, 999999999, true}, {"18446744073709551616", 7, 2, true},
		{"7", 1000000001, 0, false}, {"7", 0, 0, false}, {"7", -1, 0, false}, {"7", -3, 0, false}, {"7", math.MaxInt64, 0, false}, {"7", math.MinInt64, 0, false},
		{"1/2", 3, 0, false}, {"", 3, 0, false}, {"-0", 3, 0, false},
	} {
		got, ok := impl.RemainderOf(c.a, c.m)
		wantInt(t, fmt.Sprint("remainder of ", c.a, " and ", c.m), got, ok, c.want, c.ok)
	}
}

func TestSumsAtTheEdge(t *testing.T) {
	most, least := nines(60), "-"+nines(60)
	for _, c := range []struct {
		list []string
		want string
	}{
		{nil, "0"}, {[]string{}, "0"}, {[]string{"-1/2"}, "-1/2"}, {[]string{"1/2", "1/3", "1/6"}, "1"},
		{copies("1", 60), "60"}, {copies("1", 61), ""}, {copies("0", 61), ""}, {copies("1/60", 60), "1"}, {copies("x", 1), ""}, {[]string{"1", ""}, ""},
		{[]string{most, "1"}, ""}, {[]string{least, "-1"}, ""}, {[]string{most, "1", "-1"}, most}, {[]string{most, most, least}, most}, {[]string{least, least, least, most, most}, least},
		{append(copies(most, 30), copies(least, 30)...), "0"},
		{[]string{"1/" + most, "1/" + tenTo(59), "-1/" + most}, "1/" + tenTo(59)},
		{[]string{"1/" + most, "1/" + tenTo(59)}, ""},
	} {
		got, ok := impl.SumNumbers(c.list)
		wantText(t, fmt.Sprint("sum of ", c.list), got, ok, c.want)
	}
}

func TestDotsAtTheEdge(t *testing.T) {
	most, least := nines(60), "-"+nines(60)
	for _, c := range []struct {
		a, b []string
		want string
	}{
		{nil, nil, "0"}, {nil, []string{}, "0"}, {[]string{"1", "2"}, []string{"3", "1/2"}, "4"}, {[]string{"-1/2"}, []string{"-2"}, "1"},
		{copies("1", 60), copies("1/2", 60), "30"}, {copies("1", 61), copies("1", 61), ""}, {copies("1", 60), copies("1", 61), ""}, {copies("1", 60), copies("1", 59), ""},
		{nil, []string{"1"}, ""}, {[]string{"0"}, nil, ""}, {[]string{"1"}, []string{"x"}, ""}, {[]string{"2/4"}, []string{"1"}, ""},
		{[]string{most, most}, []string{most, least}, "0"}, {[]string{most, "5", least}, []string{most, "7", most}, "35"}, {[]string{most}, []string{"2"}, ""},
		{[]string{"1/" + most, "1/" + most}, []string{"1/" + most, "-1/" + most}, "0"}, {[]string{"1/" + most}, []string{"1/" + most}, ""},
	} {
		got, ok := impl.DotNumbers(c.a, c.b)
		wantText(t, fmt.Sprint("dot of ", c.a, " and ", c.b), got, ok, c.want)
	}
}

// A chapterCall calls a function of the chapter with those of the arguments that it takes.
type chapterCall struct {
	name string
	run  func(a, b string, n int64) []any
}

func numberCalls() []chapterCall {
	two := func(x, y any) []any { return []any{x, y} }
	return []chapterCall{
		{"IsNumber", func(a, b string, n int64) []any { return []any{impl.IsNumber(a)} }},
		{"IsInteger", func(a, b string, n int64) []any { return []any{impl.IsInteger(a)} }},
		{"NumberOf", func(a, b string, n int64) []any { return []any{impl.NumberOf(n)} }},
		{"SmallOf", func(a, b string, n int64) []any { return two(impl.SmallOf(a)) }},
		{"AddNumbers", func(a, b string, n int64) []any { return two(impl.AddNumbers(a, b)) }},
		{"SubNumbers", func(a, b string, n int64) []any { return two(impl.SubNumbers(a, b)) }},
		{"MulNumbers", func(a, b string, n int64) []any { return two(impl.MulNumbers(a, b)) }},
		{"DivNumbers", func(a, b string, n int64) []any { return two(impl.DivNumbers(a, b)) }},
		{"CompareNumbers", func(a, b string, n int64) []any { return two(impl.CompareNumbers(a, b)) }},
		{"FloorOf", func(a, b string, n int64) []any { return two(impl.FloorOf(a)) }},
		{"PowerOf", func(a, b string, n int64) []any { return two(impl.PowerOf(a, n)) }},
		{"GcdOf", func(a, b string, n int64) []any { return two(impl.GcdOf(a, b)) }},
		{"RemainderOf", func(a, b string, n int64) []any { return two(impl.RemainderOf(a, n)) }},
		{"ReadNumbers", func(a, b string, n int64) []any { return two(impl.ReadNumbers(a + b)) }},
	}
}

func TestNumberFunctionsReturnForAllArguments(t *testing.T) {
	t.Parallel()
	texts := []string{
		"", "-", "/", "0", "-0", "1", "-1", "+1", "01", "1/2", "-1/2", "2/4", "1/0", "0/0", "0/5", "5/1", "1/-2", "--1", "none", ",", "1,2", "x", " 1", "1 ",
		"\x00", "\xff\xfe", "\xed\xa0\x80", "１２", "½", "∞", "-∞", "1\u0301", "9223372036854775807", "-9223372036854775808", "18446744073709551615", "18446744073709551616",
		nines(60), "-" + nines(60), nines(61), "1/" + nines(60), nines(60) + "/" + tenTo(59), "-" + tenTo(59) + "/" + nines(60), "1/" + nines(61), "-" + strings.Repeat("9", 121), strings.Repeat("9", 122), strings.Repeat("9", 123),
		strings.Repeat("/", 200), strings.Repeat("-", 200), strings.Repeat("1/", 5000), strings.Repeat("1,", 5000), strings.Repeat("9", 200000), strings.Repeat("\xff", 200000),
	}
	numbers := []int64{math.MinInt64, math.MinInt64 + 1, -1000000001, -1, 0, 1, 2, 59, 60, 61, 1000000000, 1000000001, math.MaxInt64 - 1, math.MaxInt64}
	for _, call := range numberCalls() {
		for _, a := range texts {
			for i, b := range texts {
				n := numbers[i%len(numbers)]
				first, second := call.run(a, b, n), call.run(strings.Clone(a), strings.Clone(b), n)
				what := fmt.Sprintf("%s of %.20q, %.20q, %d", call.name, a, b, n)
				wantZeroOnFailure(t, what, first)
				if !reflect.DeepEqual(first, second) {
					t.Errorf("%s: %v, then %v", what, first, second)
				}
			}
		}
	}
	for _, s := range texts {
		if impl.IsNumber(s) != isNumberText(s) {
			t.Errorf("IsNumber of %.40q", s)
		}
	}
}

func TestListFunctionsReturnAndChangeNothing(t *testing.T) {
	lists := [][]string{
		nil, {}, {""}, {"0"}, {"1/2", "-3", "4"}, {"1", "x"}, {"2/4"}, {"none"}, {"\xff", "\x00"}, copies("1/7", 59), copies("-1/7", 60), copies("1", 61), copies("x", 5000),
		copies(nines(60)+"/"+tenTo(59), 60), copies(nines(61), 2), {strings.Repeat("9", 1000000)}, {"1", "2", "3", "4"}, {"1/2", "1/3", "1/5", "1/7"},
	}
	for _, a := range lists {
		list, before := spare(a)
		valid := impl.IsNumbers(list)
		if valid != impl.IsNumbers(list) || valid != (len(a) <= 60 && !slices.ContainsFunc(a, func(s string) bool { return !isNumberText(s) })) {
			t.Errorf("IsNumbers of %.60q: %v", a, valid)
		}
		text, ok := impl.NumbersText(list)
		again, okAgain := impl.NumbersText(list)
		if text != again || ok != okAgain || ok != valid || (text != "") != ok {
			t.Errorf("NumbersText of %.60q: %q, %v", a, text, ok)
		}
		sum, ok := impl.SumNumbers(list)
		again, okAgain = impl.SumNumbers(list)
		if sum != again || ok != okAgain || !valid && ok || (sum != "") != ok {
			t.Errorf("SumNumbers of %.60q: %q, %v", a, sum, ok)
		}
		wantUntouched(t, "one list", list, before)
		for _, b := range lists {
			other, otherBefore := spare(b)
			dot, ok := impl.DotNumbers(list, other)
			again, okAgain := impl.DotNumbers(list, other)
			if dot != again || ok != okAgain || ok && (!valid || len(a) != len(b)) || (dot != "") != ok {
				t.Errorf("DotNumbers of %.60q and %.60q: %q, %v", a, b, dot, ok)
			}
			wantUntouched(t, "first list", list, before)
			wantUntouched(t, "second list", other, otherBefore)
		}
	}
}

func TestListsThatAreReadShareNoMemory(t *testing.T) {
	first, _ := impl.ReadNumbers("1,2,3")
	second, _ := impl.ReadNumbers("1,2,3")
	first[0] = "7"
	_ = append(first[:1], "8", "9", "10")
	if !slices.Equal(second, []string{"1", "2", "3"}) {
		t.Errorf("the second list is now %q", second)
	}
	third, ok := impl.ReadNumbers("1,2,3")
	if !ok || !slices.Equal(third, second) {
		t.Errorf("read again: %q, %v", third, ok)
	}
	same := []string{"1/2", "3"}
	dot, ok := impl.DotNumbers(same, same)
	wantText(t, "a list with itself", dot, ok, "37/4")
}
