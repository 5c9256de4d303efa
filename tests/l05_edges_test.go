package tests

import (
	"fmt"
	"math"
	"math/big"
	"math/rand/v2"
	"slices"
	"strings"
	"testing"

	"loop.example/g01120/impl"
)

// Promise 6 at its edges.

// zerosOfAllLengths are recurrences of the sequence of zeros.
var zerosOfAllLengths = []string{"none;none", "0;0", "0;7", "0;-1/2", "0,0;1,1", "0,0;0,0", "0,0,0,0,0,0,0,0;1,2,3,4,5,6,7,8", "0,0,0,0,0,0,0,0;0,0,0,0,0,0,0,0"}

// someSequences are minimal, longer than needed, or end with coefficients 0.
var someSequences = []string{"1;1", "1;2", "-3;1/2", "5;0", "0,1;1,1", "1,1;1,0", "5,7;1,0", "0,3;0,0", "1,2;2,0", "1,2;3,-2", "1,1;0,1", "2,4,8;1,1,2", "1/2,-1/3;1/5,1/7", "1,2,3,4,5,6,7,8;0,0,0,0,0,0,0,1", "0,0,0,0,0,0,0,1;0,0,0,0,0,0,0,0", "1,2,4,8,16,32,64,128;1,1,1,1,1,1,1,129"}

func TestAlgebraOfZeros(t *testing.T) {
	for _, zero := range append(zerosOfAllLengths, ";") {
		a := algebraArguments{r: rec(zero), a: "3/2", n: 5, step: 3}
		if zero == ";" {
			a.r = impl.Recurrence{}
		}
		for _, name := range []string{"ScaleSequence", "TwistSequence", "ShiftSequence", "PrependTerms", "SumsOf", "DifferencesOf", "EveryOf", "BackSequence", "PolySequence"} {
			wantAlgebra(t, name, a, "none;none")
		}
		for _, other := range zerosOfAllLengths {
			for _, name := range twoNames {
				wantAlgebra(t, name, algebraArguments{r: a.r, s: rec(other)}, "none;none")
			}
			wantAlgebra(t, "WeaveSequences", algebraArguments{woven: []impl.Recurrence{a.r, rec(other), a.r}}, "none;none")
		}
		for _, s := range someSequences {
			least := minimalText(rec(s))
			wantAlgebra(t, "AddSequences", algebraArguments{r: a.r, s: rec(s)}, least)
			wantAlgebra(t, "AddSequences", algebraArguments{r: rec(s), s: a.r}, least)
			wantAlgebra(t, "SubSequences", algebraArguments{r: rec(s), s: a.r}, least)
			checkAlgebra(t, "SubSequences", algebraArguments{r: a.r, s: rec(s)})
			for _, name := range []string{"MulSequences", "ConvolveSequences"} {
				wantAlgebra(t, name, algebraArguments{r: a.r, s: rec(s)}, "none;none")
				wantAlgebra(t, name, algebraArguments{r: rec(s), s: a.r}, "none;none")
			}
			checkAlgebra(t, "WeaveSequences", algebraArguments{woven: []impl.Recurrence{a.r, rec(s)}})
			checkAlgebra(t, "WeaveSequences", algebraArguments{woven: []impl.Recurrence{rec(s), a.r, a.r}})
		}
		a.list = []string{"0", "0", "-1/2", "0"}
		wantAlgebra(t, "PrependTerms", a, "0,0,-1/2;0,0,0")
		a.list = copies("0", 8)
		wantAlgebra(t, "PrependTerms", a, "none;none")
		a.list = append(copies("0", 7), "1")
		wantAlgebra(t, "PrependTerms", a, "0,0,0,0,0,0,0,1;0,0,0,0,0,0,0,0")
	}
}

func TestSequencesThatAreLongerThanNeeded(t *testing.T) {
	random := rand.New(rand.NewPCG(101, 102))
	for _, s := range someSequences {
		for _, factor := range []string{"x", "x-1", "x+2", "x^2-x-1", "x^3-1/2", "x^2"} {
			r, ok := longer(rec(s), poly(factor))
			if !ok {
				continue
			}
			a := oneArguments(random, r)
			checkOneSequence(t, a)
			short := a
			short.r = rec(s)
			for _, call := range algebraCalls() {
				first, ok := call.run(a)
				second, okShort := call.run(short)
				if ok != okShort || recText(first) != recText(second) {
					t.Errorf("%s of %s and of %s: %s and %s", call.name, a, short, recText(first), recText(second))
				}
			}
			checkTwoSequences(t, r, rec(s))
			wantAlgebra(t, "SubSequences", algebraArguments{r: r, s: rec(s)}, "none;none")
		}
	}
}

// algebraCases compares results with the oracle and with what is wanted; arguments are made of texts.
type algebraCase struct{ name, r, s, want string }

func wantCases(t *testing.T, cases []algebraCase) {
	t.Helper()
	for _, c := range cases {
		a := algebraArguments{r: rec(c.r)}
		switch c.name {
		case "ScaleSequence", "TwistSequence":
			a.a = c.s
		case "PrependTerms":
			a.list = listFrom(c.s)
		case "ShiftSequence", "EveryOf":
			fmt.Sscan(c.s, &a.n, &a.step)
		case "PolySequence":
			a.list = listFrom(c.r)
		case "WeaveSequences":
			for _, text := range strings.Fields(c.r) {
				a.woven = append(a.woven, rec(text))
			}
		default:
			a.s = rec(c.s)
		}
		wantAlgebra(t, c.name, a, c.want)
	}
}

func TestOrdersOfResultsAtTheLimit(t *testing.T) {
	four, other := "1,2,4,8;1,1,1,1", "1,0,0,0;2,1,1,3"
	cycle := func(order int) string {
		return strings.Repeat("0,", order-1) + "1;" + strings.Repeat("0,", order-1) + "1"
	}
	nilpotent := func(order int) string {
		return strings.Repeat("0,", order-1) + "1;" + strings.Repeat("0,", order-1) + "0"
	}
	wantCases(t, []algebraCase{
		{"AddSequences", four, "0,0,0,1;0,0,0,3", "1,2,4,9,15,29,56,111;1,1,1,4,-3,-3,-3,-3"}, {"AddSequences", four, "0,0,0,0,1;0,0,0,0,3", ""}, {"SubSequences", four, "0,0,0,1;0,0,0,3", "1,2,4,7,15,29,56,105;1,1,1,4,-3,-3,-3,-3"}, {"SubSequences", "0,0,0,0,1;0,0,0,0,3", four, ""},
		{"AddSequences", nilpotent(8), "1;1", ""}, {"AddSequences", nilpotent(7), "1;1", "1,1,1,1,1,1,2,1;1,0,0,0,0,0,0,0"}, {"AddSequences", nilpotent(8), nilpotent(3), "0,0,1,0,0,0,0,1;0,0,0,0,0,0,0,0"},
		{"MulSequences", "0,1;1,1", other, "0,0,0,0,9,30,120,507;2,7,6,26,23,-8,3,-9"}, {"MulSequences", "0,1,4;3,-3,1", "1,3,9;1,2,4", ""}, {"MulSequences", cycle(8), cycle(7), ""}, {"MulSequences", cycle(8), cycle(8), cycle(8)}, {"MulSequences", cycle(2), cycle(4), cycle(4)}, {"MulSequences", cycle(2), cycle(3), cycle(6)}, {"MulSequences", cycle(3), cycle(4), ""}, {"MulSequences", nilpotent(8), nilpotent(8), nilpotent(8)}, {"MulSequences", nilpotent(8), nilpotent(7), "none;none"},
		{"ConvolveSequences", nilpotent(4), nilpotent(5), nilpotent(8)}, {"ConvolveSequences", nilpotent(5), nilpotent(5), ""}, {"ConvolveSequences", nilpotent(8), nilpotent(8), ""}, {"ConvolveSequences", nilpotent(8), "1;0", nilpotent(8)}, {"ConvolveSequences", nilpotent(8), "0,1;0,0", ""}, {"ConvolveSequences", four, "1,1,1;0,0,2", "1,3,7,16,33,66,132;1,1,3,-1,-2,-2,-2"}, {"ConvolveSequences", four, four + ",1", ""},
		{"PrependTerms", "1;2", "1,1,1,1,1,1,1", "1,1,1,1,1,1,1,1;2,0,0,0,0,0,0,0"}, {"PrependTerms", "1;2", "1,1,1,1,1,1,1,1", ""}, {"PrependTerms", "none;none", "1,2,3,4,5,6,7,8", "1,2,3,4,5,6,7,8;0,0,0,0,0,0,0,0"}, {"PrependTerms", nilpotent(8), "none", nilpotent(8)}, {"PrependTerms", nilpotent(8), "0", ""}, {"PrependTerms", nilpotent(8), "0,0,0,0,0,0,0,0", ""}, {"PrependTerms", nilpotent(7), "0", nilpotent(8)},
		{"SumsOf", cycle(8), "", ""}, {"SumsOf", cycle(7), "", "0,0,0,0,0,0,1,1;1,0,0,0,0,0,1,-1"}, {"SumsOf", nilpotent(8), "", "0,0,0,0,0,0,0,1;1,0,0,0,0,0,0,0"}, {"SumsOf", "1,-1,0,0,0,0,0,1;0,0,0,0,0,0,0,-1", "", ""}, {"SumsOf", "1,0,0,0,0,0,0,-1;0,0,0,0,0,0,0,1", "", "1,1,1,1,1,1,1,0;0,0,0,0,0,0,0,1"}, {"DifferencesOf", cycle(8), "", "0,0,0,0,0,0,1;-1,-1,-1,-1,-1,-1,-1"},
		{"WeaveSequences", "1;2 1;3 1;5 1;7", "", ""}, {"WeaveSequences", "1;2 1;3", "", "1,1,2,3;0,5,0,-6"}, {"WeaveSequences", "0,1;1,1 1;2 1;3", "", ""}, {"WeaveSequences", "0,1;1,1 1;2 none;none none;none", "", ""}, {"WeaveSequences", "0,1;1,1 none;none none;none none;none", "", "0,0,0,0,1,0,0,0;0,0,0,1,0,0,0,1"}, {"WeaveSequences", "none;none none;none none;none 0,1;0,0", "", nilpotent(8)}, {"WeaveSequences", "0,1;0,1 1,0;0,1", "", "0,1,1;1,-1,1"}, {"WeaveSequences", "1;1 1;0 2;0 1;3", "", ""}, {"WeaveSequences", "1;1 1;0 2;1 1;-1", "", ""}, {"WeaveSequences", "1;1 1;1 2;1 1;-1", "", "1,1,2,1,1,1,2,-1;0,0,0,0,0,0,0,1"},
		{"WeaveSequences", "none;none none;none none;none " + nilpotent(3), "", ""}, {"WeaveSequences", "none;none none;none none;none " + nilpotent(8), "", ""}, {"WeaveSequences", nilpotent(8) + " none;none", "", ""}, {"WeaveSequences", nilpotent(4) + " " + nilpotent(4), "", "0,0,0,0,0,0,1,1;0,0,0,0,0,0,0,0"}, {"WeaveSequences", cycle(8), "", cycle(8)}, {"WeaveSequences", "1;2 2;2 4;2 8;2", "", "1,2,4,8;0,0,0,2"}, {"WeaveSequences", "1;16 2;16 4;16 8;16", "", "1;2"},
		{"PolySequence", "0,0,0,0,0,0,0,1", "", "0,1,128,2187,16384,78125,279936,823543;8,-28,56,-70,56,-28,8,-1"}, {"PolySequence", "0,0,0,0,0,0,0,0,1", "", ""}, {"EveryOf", cycle(8), "7 3", "1,0,0,0,0,0,0,0;0,0,0,0,0,0,0,1"}, {"EveryOf", cycle(8), "3 4", "0,1;0,1"}, {"EveryOf", cycle(8), "16 4", "none;none"}, {"EveryOf", cycle(8), "2 4", "none;none"},
	})
}

func TestOrdersMuchLessThanExpected(t *testing.T) {
	wantCases(t, []algebraCase{
		{"SubSequences", "0,1;1,1", "0,1;1,1", "none;none"}, {"SubSequences", "1,2,3,4,5,6,7,8;8,7,6,5,4,3,2,1", "1,2,3,4,5,6,7,8;8,7,6,5,4,3,2,1", "none;none"}, {"AddSequences", "0,1;1,1", "0,-1;1,1", "none;none"}, {"AddSequences", "0,1;1,1", "2,1;1,1", "2,2;1,1"}, {"AddSequences", "1,2;3,-2", "-1;2", "none;none"}, {"AddSequences", "2,3;3,-2", "-1;2", "1;1"}, {"SubSequences", "2,5;5,-6", "1;3", "1;2"}, {"AddSequences", "2,5;5,-6", "1;5", "3,10,38;10,-31,30"}, {"AddSequences", "2,5;5,-6", "-1,-3;4,-3", "1;2"},
		{"MulSequences", "1;2", "1;1/2", "1;1"}, {"MulSequences", "3;-2/3", "-1/3;-3/2", "-1;1"}, {"MulSequences", "1,2;0,6", "1,1/2;0,1/6", "1;1"}, {"MulSequences", "1,0;0,1", "0,1;0,1", "none;none"}, {"MulSequences", "1,0;0,2", "1,5;0,3", "1,0;0,6"}, {"MulSequences", "2,0;0,1", "1,-1;0,1", "2,0;0,1"}, {"MulSequences", "1,-1;0,1", "1,-1;0,1", "1;1"}, {"MulSequences", "1,2;1,1", "1;1", "1,2;1,1"}, {"MulSequences", "5,1,1,1;1,0,0,0", "0,2,2,2;1,0,0,0", "0,2;1,0"}, {"MulSequences", "1,1,0;0,-1,0", "1,0,0;1,1,0", "1;0"}, {"MulSequences", "7,1;1,0", "1;0", "7;0"},
		{"ConvolveSequences", "1;2", "1,-2;0,0", "1;0"}, {"ConvolveSequences", "0,1;1,1", "1,-1,-1;0,0,0", "0,1;0,0"}, {"ConvolveSequences", "1;1", "1;1", "1,2;2,-1"}, {"ConvolveSequences", "1;0", "0,1;1,1", "0,1;1,1"}, {"ConvolveSequences", "1,2;5,0", "1;3", "1;5"},
		{"SumsOf", "0,-1;1,1", "", "0,-1,-2;2,0,-1"}, {"SumsOf", "1,-1;0,0", "", "1;0"}, {"SumsOf", "1;0", "", "1;1"}, {"SumsOf", "1;-1", "", "1,0;0,1"}, {"DifferencesOf", "1;1", "", "none;none"}, {"DifferencesOf", "1,2;2,-1", "", "1;1"}, {"DifferencesOf", "5;0", "", "-5;0"}, {"DifferencesOf", "1;2", "", "1;2"}, {"DifferencesOf", "3,5;3,-2", "", "2;2"}, {"DifferencesOf", "0,1;1,1", "", "1,0;1,1"}, {"DifferencesOf", "5,7;1,0", "", "2;0"},
		{"ShiftSequence", "5,7;1,0", "1 0", "7;1"}, {"ShiftSequence", "5,7,0;0,0,0", "1 0", "7;0"}, {"ShiftSequence", "5,7,0;0,0,0", "2 0", "none;none"}, {"EveryOf", "1,0;0,1", "0 2", "1;1"}, {"EveryOf", "1,0;0,1", "1 2", "none;none"}, {"EveryOf", "1,-1;0,1", "0 3", "1;-1"}, {"EveryOf", "1,2,4;0,0,8", "0 3", "1;8"}, {"PrependTerms", "1;2", "1/4,1/2", "1/4;2"}, {"PrependTerms", "1;2", "1/2,1/2", "1/2,1/2;2,0"}, {"PrependTerms", "0,1;1,1", "-1,1", "-1,1;1,1"}, {"PrependTerms", "0,1;1,1", "1", "1,0;1,1"}, {"PrependTerms", "0,1;1,1", "2", "2,0,1;1,1,0"}, {"PrependTerms", "1;0", "1", "1,1;0,0"}, {"PrependTerms", "0;5", "1", "1;0"}, {"PrependTerms", "1;1", "1,1,1,1,1,1,1,1", "1;1"},
	})
}

func TestFactorsAtTheEdge(t *testing.T) {
	wantCases(t, []algebraCase{
		{"ScaleSequence", "0,1;1,1", "0", "none;none"}, {"ScaleSequence", "0,1;1,1", "1", "0,1;1,1"}, {"ScaleSequence", "0,1;1,1", "-1", "0,-1;1,1"}, {"ScaleSequence", "0,1;1,1", "-3/2", "0,-3/2;1,1"}, {"ScaleSequence", "2,4;2,0", "1/2", "1;2"}, {"ScaleSequence", "5,7;1,0", "1", "5,7;1,0"},
		{"TwistSequence", "0,1;1,1", "0", "none;none"}, {"TwistSequence", "3,1;1,1", "0", "3;0"}, {"TwistSequence", "-1/2;7", "0", "-1/2;0"}, {"TwistSequence", "3,1;1,1", "1", "3,1;1,1"}, {"TwistSequence", "3,1;1,1", "-1", "3,-1;-1,1"}, {"TwistSequence", "1;1", "-1/2", "1;-1/2"}, {"TwistSequence", "0,1;1,1", "2/3", "0,2/3;2/3,4/9"}, {"TwistSequence", "5,7;1,0", "2", "5,14;2,0"}, {"TwistSequence", "1;1/2", "2", "1;1"}, {"TwistSequence", "none;none", "5", "none;none"},
	})
	for _, bad := range []string{"", "x", "2/4", "-0", "+1", "1/0", "01", "5/1", "1/1", "0/1", " 1", "1 ", "1.5", "--1", "1/-2", nines(61), "1/" + nines(61), "\xff", "none"} {
		for _, r := range []string{"none;none", "0;0", "1;2", "0,1;1,1"} {
			wantAlgebra(t, "ScaleSequence", algebraArguments{r: rec(r), a: bad}, "")
			wantAlgebra(t, "TwistSequence", algebraArguments{r: rec(r), a: bad}, "")
		}
	}
}

func TestShiftsAndStepsAtTheEdge(t *testing.T) {
	outside := []int64{-1, -2, math.MinInt64, math.MinInt64 + 1, math.MaxInt64, math.MaxInt64 - 1, 1 << 32, 1<<32 + 1}
	for _, s := range append(slices.Clone(someSequences), "none;none", "0;3", "1,1;3,1") {
		r := rec(s)
		for n := int64(0); n <= 16; n++ {
			checkAlgebra(t, "ShiftSequence", algebraArguments{r: r, n: n})
		}
		wantAlgebra(t, "ShiftSequence", algebraArguments{r: r, n: 0}, minimalText(r))
		wantAlgebra(t, "EveryOf", algebraArguments{r: r, n: 0, step: 1}, minimalText(r))
		for _, n := range []int64{0, 1, 15, 16} {
			for step := int64(1); step <= 4; step++ {
				checkAlgebra(t, "EveryOf", algebraArguments{r: r, n: n, step: step})
			}
			for _, step := range append(outside, 0, 5, 6) {
				wantAlgebra(t, "EveryOf", algebraArguments{r: r, n: n, step: step}, "")
			}
		}
		for _, n := range append(outside, 17, 18) {
			wantAlgebra(t, "ShiftSequence", algebraArguments{r: r, n: n}, "")
			for step := int64(0); step <= 5; step++ {
				wantAlgebra(t, "EveryOf", algebraArguments{r: r, n: n, step: step}, "")
			}
		}
	}
	wantCases(t, []algebraCase{
		{"ShiftSequence", "0,1;1,1", "0 0", "0,1;1,1"}, {"ShiftSequence", "0,1;1,1", "16 0", "987,1597;1,1"}, {"ShiftSequence", "0,1;1,1", "17 0", ""}, {"EveryOf", "0,1;1,1", "16 4", "987,6765;7,-1"}, {"EveryOf", "0,1;1,1", "17 4", ""}, {"EveryOf", "0,1;1,1", "16 5", ""}, {"EveryOf", "0,1;1,1", "0 0", ""}, {"EveryOf", "0,1;1,1", "0 1", "0,1;1,1"}, {"EveryOf", "0,1;1,1", "1 2", "1,2;3,-1"},
	})
}

func TestPrependedTermsAtTheEdge(t *testing.T) {
	for _, s := range append(slices.Clone(someSequences), zerosOfAllLengths...) {
		r := rec(s)
		for _, none := range [][]string{nil, {}} {
			wantAlgebra(t, "PrependTerms", algebraArguments{r: r, list: none}, minimalText(r))
		}
		for count := 1; count <= 8; count++ {
			checkAlgebra(t, "PrependTerms", algebraArguments{r: r, list: copies("1", count)})
			checkAlgebra(t, "PrependTerms", algebraArguments{r: r, list: copies("0", count)})
		}
		for _, bad := range [][]string{copies("0", 9), copies("1", 9), copies("0", 5000), {"x"}, {"1", ""}, {"2/4", "1"}, {"-0"}, {nines(61)}, append(copies("0", 7), "+1")} {
			wantAlgebra(t, "PrependTerms", algebraArguments{r: r, list: bad}, "")
		}
		// Terms that continue the sequence backwards make no new recurrence.
		back, order := termsBack(algebraArguments{r: r}), len(minimalTerms(r))
		for count := 1; back != nil && count <= 8 && order > 0; count++ {
			list, fits := numbersOf(back[1 : count+1])
			slices.Reverse(list)
			got, ok := impl.PrependTerms(r, list)
			if fits && (!ok || len(got.Start) != order) {
				t.Errorf("%q before %s: got %s, %v, want a recurrence of the order %d", list, s, recText(got), ok, order)
			}
			if fits {
				checkAlgebra(t, "PrependTerms", algebraArguments{r: r, list: list})
			}
		}
	}
}

// minimalTerms are as many terms as the minimal recurrence starts with.
func minimalTerms(r impl.Recurrence) []string {
	start, _, _ := strings.Cut(minimalText(r), ";")
	return listFrom(start)
}

func TestWovenSequencesAtTheEdge(t *testing.T) {
	one, powers, fibonacci, bad := rec("1;1"), rec("1;2"), rec("0,1;1,1"), rec("1;x")
	for _, s := range append(slices.Clone(someSequences), zerosOfAllLengths...) {
		wantAlgebra(t, "WeaveSequences", algebraArguments{woven: []impl.Recurrence{rec(s)}}, minimalText(rec(s)))
		for _, list := range [][]impl.Recurrence{{rec(s), one}, {one, rec(s)}, {fibonacci, {}, rec(s)}, {rec(s), {}, {}, {}}, {{}, {}, {}, rec(s)}, {rec(s), rec(s), rec(s), rec(s)}, {powers, rec(s), powers, powers}} {
			checkAlgebra(t, "WeaveSequences", algebraArguments{woven: list})
		}
	}
	for _, list := range [][]impl.Recurrence{nil, {}, {one, one, one, one, one}, slices.Repeat([]impl.Recurrence{{}}, 5), slices.Repeat([]impl.Recurrence{{}}, 5000), {bad}, {one, bad}, {one, {}, bad}, {one, one, one, bad}, {bad, one, one, one}, {{}, {}, {}, {Start: []string{"1"}}}, {{}, {Coeffs: []string{"0"}}}, {one, {Start: copies("0", 9), Coeffs: copies("0", 9)}}} {
		wantAlgebra(t, "WeaveSequences", algebraArguments{woven: list}, "")
	}
	wantCases(t, []algebraCase{
		{"WeaveSequences", "1;1 none;none", "", "1,0;0,1"}, {"WeaveSequences", "none;none 1;1", "", "0,1;0,1"}, {"WeaveSequences", "1;1 2;1 3;1", "", "1,2,3;0,0,1"}, {"WeaveSequences", "1;1 2;1 3;1 4;1", "", "1,2,3,4;0,0,0,1"}, {"WeaveSequences", "1;4 2;4", "", "1;2"}, {"WeaveSequences", "0,1;3,-1 1,2;3,-1", "", "0,1;1,1"}, {"WeaveSequences", "5;0 1;1", "", "5,1,0;0,1,0"}, {"WeaveSequences", "1/2;1/3 1/5;1/3", "", "1/2,1/5;0,1/3"}, {"WeaveSequences", "1;1/2 1;1/3", "", "1,1,1/2,1/3;0,5/6,0,-1/6"},
	})
}

func TestBackSequencesAtTheEdge(t *testing.T) {
	wantCases(t, []algebraCase{
		{"BackSequence", "none;none", "", "none;none"}, {"BackSequence", "0,0;1,0", "", "none;none"}, {"BackSequence", "0,0;1,2", "", "none;none"}, {"BackSequence", "1;2", "", "1;1/2"}, {"BackSequence", "1;-2/3", "", "1;-3/2"}, {"BackSequence", "5;0", "", ""}, {"BackSequence", "5,7;1,0", "", ""}, {"BackSequence", "1,2;2,0", "", "1;1/2"}, {"BackSequence", "3,3,3;1,0,0", "", "3;1"}, {"BackSequence", "0,1;1,1", "", "0,1;-1,1"}, {"BackSequence", "1,2;3,-2", "", "1;1/2"}, {"BackSequence", "2,3;3,-2", "", "2,3/2;3/2,-1/2"}, {"BackSequence", "1,2;1/2,1/3", "", "1,9/2;-3/2,3"},
		{"BackSequence", "0,0,1;0,0,5", "", "0,1/5,0;0,0,1/5"}, {"BackSequence", "1,2,3,4,5,6,7,8;0,0,0,0,0,0,0,1", "", "1,8,7,6,5,4,3,2;0,0,0,0,0,0,0,1"}, {"BackSequence", "0,0,0,0,0,0,0,1;0,0,0,0,0,0,0,0", "", ""}, {"BackSequence", "0,1,3;1,1,0", "", ""}, {"BackSequence", "0,1,1;1,1,0", "", "0,1;-1,1"},
	})
	random := rand.New(rand.NewPCG(103, 104))
	for range 200 {
		r := smallRecurrence(random, 1+random.IntN(4))
		checkAlgebra(t, "BackSequence", algebraArguments{r: r})
		if more, ok := longer(r, poly("x")); ok {
			checkAlgebra(t, "BackSequence", algebraArguments{r: more})
		}
	}
}

func TestPolynomialSequencesAtTheEdge(t *testing.T) {
	for _, zero := range [][]string{nil, {}} {
		wantAlgebra(t, "PolySequence", algebraArguments{list: zero}, "none;none")
	}
	for count := 1; count <= 8; count++ {
		checkAlgebra(t, "PolySequence", algebraArguments{list: copies("1", count)})
		checkAlgebra(t, "PolySequence", algebraArguments{list: append(copies("0", count-1), "-1/7")})
	}
	for _, bad := range [][]string{copies("1", 9), copies("1", 13), copies("1", 14), copies("1", 5000), {"0"}, {"1", "0"}, {"0", "0", "0"}, append(copies("1", 8), "0"), append(copies("1", 7), "0"), {"x"}, {"1", "2/4"}, {"-0", "1"}, {"", "1"}, {nines(61)}} {
		wantAlgebra(t, "PolySequence", algebraArguments{list: bad}, "")
	}
	wantCases(t, []algebraCase{
		{"PolySequence", "5", "", "5;1"}, {"PolySequence", "-1/2", "", "-1/2;1"}, {"PolySequence", "0,1", "", "0,1;2,-1"}, {"PolySequence", "1,-1/2", "", "1,1/2;2,-1"}, {"PolySequence", "1,-3,2", "", "1,0,3;3,-3,1"}, {"PolySequence", nines(60), "", nines(60) + ";1"}, {"PolySequence", "0," + nines(60), "", "0," + nines(60) + ";2,-1"}, {"PolySequence", "1," + nines(60), "", ""}, {"PolySequence", "-1," + nines(60), "", "-1," + nines(59) + "8;2,-1"}, {"PolySequence", "1/" + nines(60), "", "1/" + nines(60) + ";1"}, {"PolySequence", "1/2,1/" + tenTo(59), "", "1/2,5" + strings.Repeat("0", 57) + "1" + "/" + tenTo(59) + ";2,-1"}, {"PolySequence", "1/7,1/" + tenTo(59), "", "1/7," + tenTo(58) + "7/7" + strings.Repeat("0", 59) + ";2,-1"}, {"PolySequence", "1/11,1/" + tenTo(59), "", ""},
		{"PolySequence", "0,0,2" + strings.Repeat("0", 59), "", "0,2" + strings.Repeat("0", 59) + ",8" + strings.Repeat("0", 59) + ";3,-3,1"}, {"PolySequence", "0,0,3" + strings.Repeat("0", 59), "", ""},
	})
}

func TestInvalidSequencesInEachPlace(t *testing.T) {
	random := rand.New(rand.NewPCG(105, 106))
	for _, bad := range []string{"1;none", "none;1", "1,2;1", "1;1,2", "x;1", "1;x", ";", "2/4;1", "1;-0", "1;1/0", "1,1;1,+1", nines(61) + ";1", "1;" + nines(61), "1,1,1,1,1,1,1,1,1;1,1,1,1,1,1,1,1,1", "0,0,0,0,0,0,0,0,0;0,0,0,0,0,0,0,0,0"} {
		if isRecurrence(rec(bad)) {
			t.Fatalf("%s is valid", bad)
		}
		a := oneArguments(random, rec(bad))
		for _, call := range algebraCalls() {
			if slices.Contains([]string{"WeaveSequences", "PolySequence"}, call.name) {
				continue
			}
			for _, good := range []string{"none;none", "0;0", "1;2", "0,1;1,1"} {
				a.s = rec(good)
				wantAlgebra(t, call.name, a, "")
				if slices.Contains(twoNames, call.name) {
					wantAlgebra(t, call.name, algebraArguments{r: rec(good), s: rec(bad)}, "")
				}
			}
		}
		wantAlgebra(t, "WeaveSequences", algebraArguments{woven: []impl.Recurrence{rec("1;1"), rec(bad)}}, "")
	}
}

// hiddenBack returns a recurrence whose numbers fit, while its minimal one has too many digits, and that of the sequence to the other side fits again.
func hiddenBack(t *testing.T) (impl.Recurrence, string) {
	t.Helper()
	// The minimal polynomial is x^2 + bm/(4a)x + m/a, with a = (b-1)c, and another root is 4.
	b, m := big.NewInt(1001), intOf("11"+strings.Repeat("0", 49)+"1234511")
	c := new(big.Int).Div(new(big.Int).Mul(b, m), big.NewInt(16000))
	ratio := func(above, below *big.Int) *big.Rat { return new(big.Rat).SetFrac(above, below) }
	a := new(big.Int).Mul(big.NewInt(1000), c)
	first := ratio(new(big.Int).Mul(b, m), new(big.Int).Mul(big.NewInt(4), a))
	second := ratio(m, a)
	coeffs := rats{new(big.Rat).Sub(big.NewRat(4, 1), first), ratio(m, c), new(big.Rat).Mul(big.NewRat(4, 1), second)}
	start, _ := numbersOf(rats{big.NewRat(1, 1), new(big.Rat), new(big.Rat).Neg(second)})
	texts, _ := numbersOf(coeffs)
	r := impl.Recurrence{Start: start, Coeffs: texts}
	if !isRecurrence(r) || minimalText(r) != "" {
		t.Fatalf("%s is not the recurrence that the test needs", recText(r))
	}
	return r, "1,-1001/4;-1001/4," + new(big.Rat).Neg(ratio(a, m)).RatString()
}

func TestBackSequenceOfALongMinimalRecurrence(t *testing.T) {
	r, want := hiddenBack(t)
	least, ok := impl.MinimalOf(r)
	wantRecurrence(t, "minimal one", least, ok, "")
	wantAlgebra(t, "BackSequence", algebraArguments{r: r}, want)
	wantAlgebra(t, "ScaleSequence", algebraArguments{r: r, a: "1"}, "")
	wantAlgebra(t, "SubSequences", algebraArguments{r: r, s: r}, "none;none")
}

func TestDigitsOfStarts(t *testing.T) {
	most, less, great := nines(60), nines(59)+"8", tenTo(59)
	wantCases(t, []algebraCase{
		{"AddSequences", less + ";1", "1;1", most + ";1"}, {"AddSequences", most + ";1", "1;1", ""}, {"AddSequences", "-" + most + ";1", "-1;1", ""}, {"AddSequences", "-" + most + ";1", "1;1", "-" + less + ";1"}, {"AddSequences", most + ";1", "-" + most + ";1", "none;none"}, {"AddSequences", most + ";0", "1;1", ""}, {"AddSequences", "1/" + tenTo(30) + ";1", "1/" + tenTo(29) + "1;1", ""}, {"AddSequences", "1/" + great + ";1", "1/2;1", "5" + strings.Repeat("0", 57) + "1/" + great + ";1"}, {"AddSequences", "1/" + great + ";1", "1/3;1", "1" + strings.Repeat("0", 58) + "3/3" + strings.Repeat("0", 59) + ";1"}, {"AddSequences", "1/" + great + ";1", "1/13;1", ""},
		{"SubSequences", most + ";1", "-1;1", ""}, {"SubSequences", less + ";1", "-1;1", most + ";1"}, {"SubSequences", "-1;1", most + ";1", ""}, {"SubSequences", "-1;1", less + ";1", "-" + most + ";1"}, {"SubSequences", most + ",1;0,1", most + ";1", "0,-" + less + ";0,1"}, {"SubSequences", most + ",-1;0,1", most + ";1", ""},
		{"MulSequences", tenTo(30) + ";1", tenTo(29) + ";1", great + ";1"}, {"MulSequences", tenTo(30) + ";1", tenTo(30) + ";1", ""}, {"MulSequences", "1/" + tenTo(30) + ";1", "-1/" + tenTo(29) + ";1", "-1/" + great + ";1"}, {"MulSequences", "1/" + tenTo(30) + ";1", "1/" + tenTo(30) + ";1", ""}, {"MulSequences", most + ";1", "1/" + most + ";-1", "1;-1"}, {"MulSequences", "0," + most + ";0,1", most + ",0;0,1", "none;none"}, {"MulSequences", "1," + most + ";0,1", "1,1/" + most + ";0,1", "1;1"},
		{"ConvolveSequences", tenTo(30) + ";0", tenTo(29) + ";0", great + ";0"}, {"ConvolveSequences", tenTo(30) + ";0", tenTo(30) + ";0", ""}, {"ConvolveSequences", "1," + tenTo(59) + ";0,0", "1,-" + tenTo(59) + ";0,0", ""}, {"ConvolveSequences", "1," + tenTo(29) + ";0,0", "1,-" + tenTo(29) + ";0,0", "1,0,-" + tenTo(58) + ";0,0,0"}, {"ConvolveSequences", most + ";1", "1,-1;0,0", most + ";0"}, {"ConvolveSequences", most + ";1", "1;1", ""},
		{"ScaleSequence", most + ";1", "1", most + ";1"}, {"ScaleSequence", most + ";1", "-1", "-" + most + ";1"}, {"ScaleSequence", most + ";1", "2", ""}, {"ScaleSequence", most + ";1", "10/9", ""}, {"ScaleSequence", most + ";1", "1/" + most, "1;1"}, {"ScaleSequence", "1/" + most + ";1", "1/2", ""}, {"ScaleSequence", "1/" + most + ";1", most, "1;1"}, {"ScaleSequence", great + ";1", "9", "9" + strings.Repeat("0", 59) + ";1"}, {"ScaleSequence", great + ";1", "10", ""}, {"ScaleSequence", "1," + great + ";1,0", "10", ""},
		{"TwistSequence", "0," + great + ";0,1/100", "10", ""}, {"TwistSequence", "0," + tenTo(58) + ";0,1/100", "10", "0," + great + ";0,1"}, {"TwistSequence", most + ",0;0,1", most, ""}, {"TwistSequence", most + ";0", most, most + ";0"},
		{"ShiftSequence", "1;" + tenTo(10), "5 0", tenTo(50) + ";" + tenTo(10)}, {"ShiftSequence", "1;" + tenTo(10), "6 0", ""}, {"ShiftSequence", "9;1/" + tenTo(10), "6 0", ""}, {"ShiftSequence", great + "," + most + ";0,1/10", "2 0", tenTo(58) + "," + most + "/10;0,1/10"}, {"ShiftSequence", most + "," + most + ";1,1", "1 0", ""}, {"ShiftSequence", "1," + great + ";0," + great, "16 0", ""},
		{"PrependTerms", "1;1", most + ",1/" + most, most + ",1/" + most + ",1;1,0,0"}, {"PrependTerms", most + "/" + great + ";1", "-" + most + "/" + great, "-" + most + "/" + great + "," + most + "/" + great + ";1,0"}, {"PrependTerms", great + ";10", "1,1", "1,1," + great + ";10,0,0"}, {"PrependTerms", great + ";10", tenTo(57) + "," + tenTo(58), tenTo(57) + ";10"},
		{"SumsOf", "5" + strings.Repeat("0", 59) + ";1", "", ""}, {"SumsOf", "4" + strings.Repeat("0", 59) + ";1", "", "4" + strings.Repeat("0", 59) + ",8" + strings.Repeat("0", 59) + ";2,-1"}, {"SumsOf", most + ";-1", "", most + ",0;0,1"}, {"SumsOf", most + ",1;0,0", "", ""}, {"SumsOf", less + ",1;0,0", "", less + "," + most + ";1,0"},
		{"DifferencesOf", "-1," + less + ";0,1", "", most + ";-1"}, {"DifferencesOf", "-1," + most + ";0,1", "", ""}, {"DifferencesOf", most + ";1", "", "none;none"}, {"DifferencesOf", most + ";-1", "", ""}, {"DifferencesOf", most + ",1;1,0", "", "-" + less + ";0"},
		{"EveryOf", "1;" + tenTo(29), "2 1", tenTo(58) + ";" + tenTo(29)}, {"EveryOf", "1;" + tenTo(29), "3 1", ""}, {"EveryOf", "1," + most + ";0," + great, "0 2", "1;" + great}, {"EveryOf", "1," + most + ";0," + great, "1 2", most + ";" + great}, {"EveryOf", "1," + most + ";0," + great, "3 2", ""},
		{"WeaveSequences", most + ";1 -" + most + ";1", "", most + ";-1"}, {"WeaveSequences", "1/" + most + ";1 " + most + ";1", "", "1/" + most + "," + most + ";0,1"}, {"WeaveSequences", great + ";10 1;10", "", great + ",1;0,10"}, {"WeaveSequences", most + ";10 1;9", "", ""}, {"WeaveSequences", most + ";1 1;10", "", most + ",1," + most + ",10;0,11,0,-10"}, {"WeaveSequences", nines(59) + ";1 1;10", "", nines(59) + ",1," + nines(59) + ",10;0,11,0,-10"},
		{"BackSequence", most + ";" + most, "", most + ";1/" + most}, {"BackSequence", most + ",1;0,1/100", "", most + ",100;0,100"}, {"BackSequence", "1," + most + ";0,1/10", "", ""}, {"BackSequence", "1," + nines(59) + ";0,1/10", "", "1," + nines(59) + "0;0,10"},
	})
}

func TestDigitsOfCoefficients(t *testing.T) {
	most, less, great := nines(60), nines(59)+"8", tenTo(59)
	pure := "1,0,0,0,0,0,0,0;0,0,0,0,0,0,0,"
	wantCases(t, []algebraCase{
		{"AddSequences", "1;" + less, "1;1", "2," + most + ";" + most + ",-" + less}, {"AddSequences", "1;" + most, "1;1", ""}, {"AddSequences", "1;" + most, "1;-" + most, ""}, {"AddSequences", "1;" + tenTo(30), "1;-" + tenTo(29), "2,9" + strings.Repeat("0", 29) + ";9" + strings.Repeat("0", 29) + "," + great}, {"AddSequences", "1;" + tenTo(30), "-1;" + tenTo(30), "none;none"}, {"AddSequences", "1;1/" + tenTo(30), "1;1/" + tenTo(31), ""},
		{"SubSequences", "1;" + tenTo(30), "1;-" + tenTo(30), ""}, {"SubSequences", "1;" + tenTo(30), "1;-" + tenTo(29), "0,11" + strings.Repeat("0", 29) + ";9" + strings.Repeat("0", 29) + "," + great}, {"SubSequences", "1;" + most, "1;" + most, "none;none"},
		{"MulSequences", "1;" + tenTo(30), "1;" + tenTo(29), "1;" + great}, {"MulSequences", "1;" + tenTo(30), "1;-" + tenTo(30), ""}, {"MulSequences", "1;1/" + tenTo(30), "1;1/" + tenTo(29), "1;1/" + great}, {"MulSequences", "1;1/" + tenTo(30), "1;1/" + tenTo(30), ""}, {"MulSequences", "1;" + most + "/" + great, "1;" + great + "/" + most, "1;1"}, {"MulSequences", "1,0;0," + most, "0,1;0," + most, "none;none"}, {"MulSequences", "1,0;0," + most, "1,0;0,1/" + most, "1,0;0,1"}, {"MulSequences", pure + most, pure + "1/" + most, pure + "1"}, {"MulSequences", pure + most, pure + most, ""}, {"MulSequences", pure + most + "/" + great, pure + most + "/" + great, ""},
		{"ConvolveSequences", "1;" + tenTo(30), "1;" + tenTo(29), "1,11" + strings.Repeat("0", 29) + ";11" + strings.Repeat("0", 29) + ",-" + great}, {"ConvolveSequences", "1;" + tenTo(30), "1;" + tenTo(30), ""}, {"ConvolveSequences", "1;" + most, "1,-" + most + ";0,0", "1;0"}, {"ConvolveSequences", "1;" + most + "/" + great, "0,1;1,1", ""},
		{"TwistSequence", "1;" + great, "1", "1;" + great}, {"TwistSequence", "1;" + great, "-1", "1;-" + great}, {"TwistSequence", "1;" + great, "1/10", "1;" + tenTo(58)}, {"TwistSequence", "1;" + great, "10", ""}, {"TwistSequence", "1;" + great, "1/" + great, "1;1"}, {"TwistSequence", "1;1/" + great, "1/10", ""}, {"TwistSequence", "0,1;0," + tenTo(29), tenTo(15), "0," + tenTo(15) + ";0," + great}, {"TwistSequence", "0,1;0," + tenTo(29), tenTo(16), ""}, {"TwistSequence", "0,1;1,1", tenTo(29), "0," + tenTo(29) + ";" + tenTo(29) + "," + tenTo(58)}, {"TwistSequence", "0,1;1,1", tenTo(30), ""}, {"TwistSequence", "0,1;1,1", tenTo(40), ""}, {"TwistSequence", "0,1;1,1", "1/" + tenTo(40), ""}, {"TwistSequence", "0,1;1,1", most + "/" + great, ""},
		{"TwistSequence", pure + "1", tenTo(7), pure + tenTo(56)}, {"TwistSequence", pure + "1", tenTo(8), ""}, {"TwistSequence", pure + "1", most, ""}, {"TwistSequence", pure + "1", most + "/" + great, ""}, {"TwistSequence", pure + "1", "1/" + most, ""}, {"TwistSequence", pure + most, "1/" + tenTo(8), ""}, {"TwistSequence", pure + most, "-1/" + tenTo(7), pure + most + "/" + tenTo(56)}, {"TwistSequence", pure + "0", most, "1;0"},
		{"ScaleSequence", "1;" + most, "-1", "-1;" + most}, {"ShiftSequence", "0;" + most, "16 0", "none;none"}, {"ShiftSequence", pure + most, "8 0", most + pure[1:] + most}, {"ShiftSequence", pure + most, "16 0", ""}, {"ShiftSequence", pure + most, "1 0", "0,0,0,0,0,0,0," + most + pure[15:] + most}, {"PrependTerms", "1;" + most, "1", "1,1;" + most + ",0"}, {"PrependTerms", "1;" + most, "1/" + most, "1/" + most + ";" + most},
		{"SumsOf", "1;" + less, "", "1," + most + ";" + most + ",-" + less}, {"SumsOf", "1;" + most, "", ""}, {"SumsOf", "1;-" + most, "", "1,-" + less + ";-" + less + "," + most}, {"DifferencesOf", "1;" + most, "", less + ";" + most}, {"DifferencesOf", "1;-" + most, "", ""},
		{"EveryOf", "1;" + tenTo(29), "0 2", "1;" + tenTo(58)}, {"EveryOf", "1;" + tenTo(29), "0 3", ""}, {"EveryOf", "1;" + tenTo(15), "0 4", ""}, {"EveryOf", "1;" + tenTo(14), "0 4", "1;" + tenTo(56)}, {"EveryOf", "1;1/" + tenTo(15), "0 4", ""}, {"EveryOf", "0,1;" + tenTo(29) + ",1", "0 2", "0," + tenTo(29) + ";1" + strings.Repeat("0", 57) + "2,-1"}, {"EveryOf", "0,1;" + tenTo(30) + ",1", "0 2", ""}, {"EveryOf", "0,1;0," + great, "0 2", "none;none"}, {"EveryOf", "0,1;0," + great, "1 4", ""}, {"EveryOf", pure + most, "0 4", "1,0;0," + most}, {"EveryOf", pure + most, "0 3", ""},
		{"WeaveSequences", "1;" + tenTo(30) + " 1;" + tenTo(29), "", "1,1," + tenTo(30) + "," + tenTo(29) + ";0,11" + strings.Repeat("0", 29) + ",0,-" + great}, {"WeaveSequences", "1;" + tenTo(30) + " 1;-" + tenTo(30), "", ""}, {"WeaveSequences", "1;" + most + " 1;" + most, "", "1,1;0," + most},
		{"BackSequence", "1,1;" + tenTo(30) + ",1/" + tenTo(29), "", "1,-" + nines(30) + strings.Repeat("0", 29) + ";-" + great + "," + tenTo(29)}, {"BackSequence", "1," + tenTo(30) + ";" + tenTo(30) + ",1/" + tenTo(30), "", ""}, {"BackSequence", "1;" + most + "/" + great, "", "1;" + great + "/" + most},
	})
}

func TestNumbersOnTheWayWithMoreDigits(t *testing.T) {
	great := tenTo(59)
	both := "1" + strings.Repeat("0", 58) + "1"
	wantCases(t, []algebraCase{
		{"MulSequences", "1;" + great, "1;1/" + great, "1;1"}, {"AddSequences", "2," + both + ";" + both + ",-" + great, "-1;" + great, "1;1"}, {"SubSequences", "2," + both + ";" + both + ",-" + great, "1;1", "1;" + great}, {"TwistSequence", "2," + both + ";" + both + ",-" + great, "1/" + great, "2," + both + "/" + great + ";" + both + "/" + great + ",-1/" + great},
		{"EveryOf", "1,1,1," + great + ";0," + both + ",0,-" + great, "0 2", "1;1"}, {"EveryOf", "1,1,1," + great + ";0," + both + ",0,-" + great, "16 2", "1;1"}, {"EveryOf", "1,1,1," + great + ";0," + both + ",0,-" + great, "16 4", "1;1"}, {"EveryOf", "1,1,1," + great + ";0," + both + ",0,-" + great, "15 2", ""}, {"ConvolveSequences", "1;" + great, "1,-" + great + ";0,0", "1;0"}, {"DifferencesOf", "2," + both + ";" + both + ",-" + great, "", nines(59) + ";" + great},
		{"MulSequences", "0,1;0," + great, "0,1;0,1/" + great, "0,1;0,1"}, {"WeaveSequences", "1;" + great + " 0,0;" + great + "," + great, "", "1,0;0," + great},
	})
	random := rand.New(rand.NewPCG(107, 108))
	for _, s := range []string{"0;0", "5;1", "1/3;-1", "1,2;0,1", "0,1,-1/2;0,0,1"} {
		factor := []string{}
		for len(factor) < orderLimit-len(rec(s).Start) {
			factor = append(factor, new(big.Rat).SetFrac(intOf(nines(1+random.IntN(50))), intOf(tenTo(57))).RatString())
		}
		r, ok := longer(rec(s), append(factor, "1"))
		if !ok {
			t.Fatalf("no longer recurrence of %s", s)
		}
		a := algebraArguments{a: "-1/2", n: 16, step: 4, list: []string{"7"}, s: rec("1,1;1,1")}
		for _, call := range algebraCalls() {
			long, short := a, a
			long.r, short.r = r, rec(s)
			long.woven, short.woven = []impl.Recurrence{r, r}, []impl.Recurrence{rec(s), rec(s)}
			want := call.wantedText(short)
			got, ok := call.run(long)
			wantRecurrence(t, call.name+" of "+long.String(), got, ok, want)
		}
	}
}

// vanishing returns recurrences with some coefficients, the terms of which add up to 0 at each index but the last one of those that decide. It returns false if there are none.
func vanishing(coeffs ...[]string) ([]impl.Recurrence, bool) {
	count := len(slices.Concat(coeffs...))
	equations := make([]rats, count)
	for _, list := range coeffs {
		for i := range list {
			start := copies("0", len(list))
			start[i] = "1"
			for n, x := range termsOf(impl.Recurrence{Start: start, Coeffs: list}, count) {
				equations[n] = append(equations[n], x)
			}
		}
	}
	for n := range count {
		equations[n] = append(equations[n], big.NewRat(int64((n+1)/count), 1))
	}
	if reduceRows(slices.Clone(equations), count) < count {
		return nil, false
	}
	starts, _ := solve(equations, count)
	texts, fits := numbersOf(starts)
	list := []impl.Recurrence{}
	for _, c := range coeffs {
		if fits {
			list = append(list, impl.Recurrence{Start: texts[:len(c)], Coeffs: c})
			texts = texts[len(c):]
		}
	}
	return list, fits
}

// A sequence can agree with one of a small order in all terms but the last one of those that decide.
func TestTermsThatDecide(t *testing.T) {
	t.Parallel()
	random := rand.New(rand.NewPCG(109, 110))
	found := 0
	for range 120 {
		first, second, third := smallRecurrence(random, 1+random.IntN(8)).Coeffs, smallRecurrence(random, 1+random.IntN(8)).Coeffs, smallRecurrence(random, 8).Coeffs
		if random.IntN(3) == 0 {
			first, second = smallRecurrence(random, 8).Coeffs, smallRecurrence(random, 8).Coeffs
		}
		if len(first)+len(second) <= 8 {
			continue
		}
		if list, ok := vanishing(first, second, third); ok {
			found++
			a := algebraArguments{r: list[0], s: list[1]}
			wantAlgebra(t, "AddSequences", a, "")
			opposite, _ := impl.ScaleSequence(list[1], "-1")
			if isRecurrence(opposite) && len(opposite.Start) == len(second) {
				wantAlgebra(t, "SubSequences", algebraArguments{r: list[0], s: opposite}, "")
			}
		}
		if list, ok := vanishing(first, second); ok {
			checkTwoSequences(t, list[0], list[1])
		}
	}
	if found < 30 {
		t.Errorf("there were only %d such sequences", found)
	}
}

// A woven sequence can agree even longer with one of a small order.
func TestWovenTermsThatDecide(t *testing.T) {
	random := rand.New(rand.NewPCG(111, 112))
	found := 0
	for range 100 {
		count := 2 + random.IntN(3)
		small := smallRecurrence(random, orderLimit/count).Coeffs
		list, ok := vanishing(smallRecurrence(random, 8).Coeffs, small)
		if !ok {
			continue
		}
		found++
		for at := range count {
			woven := make([]impl.Recurrence, count)
			woven[at] = list[0]
			wantAlgebra(t, "WeaveSequences", algebraArguments{woven: woven}, "")
		}
	}
	if found < 20 {
		t.Errorf("there were only %d such sequences", found)
	}
}

// chosenAgainst returns a recurrence of the order 2 that is minimal, but modulo a prime has the same terms as one of the order 1: a u(0) u(2) less the square of u(1) is the prime.
func chosenAgainst(t *testing.T, prime *big.Int, digits int) impl.Recurrence {
	t.Helper()
	first := intOf(tenTo(digits - 1))
	for range 10000 {
		first = new(big.Int).Add(first, big.NewInt(1))
		root := new(big.Int)
		if !first.ProbablyPrime(10) || root.ModSqrt(new(big.Int).Mod(new(big.Int).Neg(prime), first), first) == nil {
			continue
		}
		// root^2 + prime is first times a number; that is c first + d root.
		third := new(big.Int).Add(new(big.Int).Mul(root, root), prime)
		third.Quo(third, first)
		c := new(big.Int).Mul(third, new(big.Int).ModInverse(root, first))
		c.Mod(c, first)
		d := new(big.Int).Sub(third, new(big.Int).Mul(c, root))
		d.Quo(d, first)
		r := rec(first.String() + "," + root.String() + ";" + c.String() + "," + d.String())
		if isRecurrence(r) && d.Sign() != 0 {
			return r
		}
	}
	t.Fatalf("found nothing for a prime with %d bits", prime.BitLen())
	return impl.Recurrence{}
}

// Terms that are special modulo a prime are no reason to go wrong.
func TestNumbersChosenAgainstPrimes(t *testing.T) {
	for bits, digits := range map[int]int{31: 12, 61: 18, 89: 20, 107: 25, 127: 30, 521: 56} {
		prime := new(big.Int).Sub(new(big.Int).Lsh(big.NewInt(1), uint(bits)), big.NewInt(1))
		r := chosenAgainst(t, prime, digits)
		terms := termsOf(r, 3)
		difference := new(big.Rat).Sub(new(big.Rat).Mul(terms[0], terms[2]), new(big.Rat).Mul(terms[1], terms[1]))
		if difference.Cmp(new(big.Rat).SetInt(prime)) != 0 {
			t.Fatalf("%s is not chosen well", recText(r))
		}
		least := recText(r)
		wantAlgebra(t, "ScaleSequence", algebraArguments{r: r, a: "1"}, least)
		wantAlgebra(t, "ShiftSequence", algebraArguments{r: r}, least)
		wantAlgebra(t, "AddSequences", algebraArguments{r: r}, least)
		wantAlgebra(t, "MulSequences", algebraArguments{r: r, s: rec("1;1")}, least)
		wantAlgebra(t, "WeaveSequences", algebraArguments{woven: []impl.Recurrence{r}}, least)
		checkOneSequence(t, algebraArguments{r: r, a: "1/2", n: 2, step: 2, list: []string{"1"}})
		checkTwoSequences(t, r, r)
	}
}
