package tests

import (
	"fmt"
	"math"
	"math/big"
	"math/rand/v2"
	"slices"
	"strings"
	"testing"

	"loop.example/g01120/impl"
)

// Promise 5 at its edges.

// wantNoFarTerms checks that all functions with an index and a modulus fail.
func wantNoFarTerms(t *testing.T, r impl.Recurrence, n, m int64) {
	t.Helper()
	what := fmt.Sprintf("at %d modulo %d of %.60s", n, m, recText(r))
	x, ok := impl.FarTerm(r, n, m)
	wantInt(t, "term "+what, x, ok, 0, false)
	list, ok := impl.FarTerms(r, n, 1, m)
	wantInts(t, "terms "+what, list, ok, nil)
	list, ok = impl.FarTerms(r, n, 0, m)
	wantInts(t, "no terms "+what, list, ok, nil)
	x, ok = impl.FarSum(r, n, m)
	wantInt(t, "sum "+what, x, ok, 0, false)
	x, ok = impl.BackTerm(r, n, m)
	wantInt(t, "term back "+what, x, ok, 0, false)
}

// wantNoPeriod checks that all functions that need the period fail.
func wantNoPeriod(t *testing.T, r impl.Recurrence, m int64) {
	t.Helper()
	what := fmt.Sprintf("modulo %d of %.60s", m, recText(r))
	p, q, ok := impl.PeriodOf(r, m)
	wantPair(t, "period "+what, p, q, ok, 0, 0, false)
	list, ok := impl.ResiduesOf(r, m)
	wantInts(t, "residues "+what, list, ok, nil)
	list, ok = impl.ZeroPlaces(r, m)
	wantInts(t, "zeros "+what, list, ok, nil)
	x, ok := impl.FirstZero(r, m)
	wantInt(t, "first zero "+what, x, ok, 0, false)
}

func TestFarTermsOfTheOrderZero(t *testing.T) {
	for _, zero := range []impl.Recurrence{{}, {Start: []string{}, Coeffs: []string{}}, {Coeffs: []string{}}} {
		for _, m := range []int64{2, 3, 1000000} {
			for _, n := range []int64{0, 1, 200, indexLimit} {
				checkFar(t, zero, n, m)
				x, ok := impl.BackTerm(zero, n, m)
				wantInt(t, "term back", x, ok, 0, false)
			}
			p, q, ok := impl.PeriodOf(zero, m)
			wantPair(t, "period", p, q, ok, 0, 1, true)
			list, ok := impl.ResiduesOf(zero, m)
			wantInts(t, "residues", list, ok, []int64{0})
			list, ok = impl.ZeroPlaces(zero, m)
			wantInts(t, "zeros", list, ok, []int64{0})
			x, ok := impl.FirstZero(zero, m)
			wantInt(t, "first zero", x, ok, 0, true)
		}
		for _, n := range []int64{0, 1, 200} {
			text, ok := impl.FarExact(zero, n)
			wantText(t, "term", text, ok, "0")
		}
		text, ok := impl.FarExact(zero, 201)
		wantText(t, "term", text, ok, "")
		wantNoFarTerms(t, zero, 0, 1)
		wantNoFarTerms(t, zero, -1, 2)
		wantNoPeriod(t, zero, 1)
	}
}

func TestFarTermsOfTheGreatestOrder(t *testing.T) {
	t.Parallel()
	random := rand.New(rand.NewPCG(71, 72))
	most := impl.Recurrence{Start: copies("-"+nines(60), 8), Coeffs: copies("-"+nines(60), 8)}
	for _, r := range []impl.Recurrence{most, greatWhole(random, 8), rec("1,2,3,4,5,6,7,8;0,0,0,0,0,0,0,1"), rec("0,0,0,0,0,0,0,1;0,0,0,0,0,0,0,-1"), rec("0,0,0,0,0,0,0,1;0,0,0,0,0,0,0,0"), rec("1,0,0,0,0,0,0,0;1,1,1,1,1,1,1,1")} {
		for _, m := range someModuli {
			checkNear(t, r, 20, m)
			checkFar(t, r, indexLimit, m)
			checkFar(t, r, indexLimit-1, m)
			checkBack(t, r, 20, m)
			checkPeriod(t, r, m)
		}
		for _, n := range []int{0, 7, 8, 9, 100} {
			checkExact(t, r, n)
		}
	}
	for _, more := range []impl.Recurrence{{Start: copies("1", 9), Coeffs: copies("1", 9)}, {Start: copies("0", 9), Coeffs: copies("0", 9)}, {Start: copies("1", 9), Coeffs: copies("1", 8)}, {Start: copies("1", 8), Coeffs: copies("1", 9)}} {
		wantNoFarTerms(t, more, 0, 10)
		wantNoPeriod(t, more, 10)
		text, ok := impl.FarExact(more, 0)
		wantText(t, "term of the order 9", text, ok, "")
	}
}

func TestRecurrencesThatAreNotWhole(t *testing.T) {
	for _, s := range []string{"1/2;1", "1;1/2", "1,2;1,-1/3", "1,-1/3;1,2", "1;none", "none;1", "1,2;1", "1;1,2", "x;1", "1;x", "2/1;1", "1;-0", "+1;1", nines(61) + ";1", "1;" + nines(61), "1;1/0"} {
		for _, m := range []int64{2, 3, 10, 1000000} {
			wantNoFarTerms(t, rec(s), 0, m)
			wantNoFarTerms(t, rec(s), 7, m)
			wantNoPeriod(t, rec(s), m)
		}
		text, ok := impl.FarExact(rec(s), 0)
		if want := strings.Split(s, ",")[0]; isRecurrence(rec(s)) {
			wantText(t, "first term of "+s, text, ok, strings.Split(want, ";")[0])
		} else {
			wantText(t, "first term of "+s, text, ok, "")
		}
	}
}

func TestIndicesAndModuliAtTheEdge(t *testing.T) {
	for _, r := range []impl.Recurrence{rec("0,1;1,1"), rec("3;7"), rec("1,-2,3;-1,0,7")} {
		for _, m := range []int64{2, 3, 999983, 999999, 1000000} {
			for _, n := range []int64{0, 1, 2, indexLimit - 1, indexLimit} {
				checkFar(t, r, n, m)
			}
			for _, n := range []int64{-1, -2, indexLimit + 1, math.MinInt64, math.MaxInt64, math.MinInt64 + 1} {
				wantNoFarTerms(t, r, n, m)
			}
			x, ok := impl.FarSum(r, 0, m)
			wantInt(t, "sum of no terms", x, ok, 0, true)
			for _, count := range []int64{-1, 41, 42, math.MinInt64, math.MaxInt64, 1 << 32} {
				list, ok := impl.FarTerms(r, 0, count, m)
				wantInts(t, fmt.Sprint(count, " terms"), list, ok, nil)
			}
			for _, n := range []int64{0, 1, indexLimit} {
				list, ok := impl.FarTerms(r, n, 0, m)
				wantInts(t, "no terms", list, ok, []int64{})
				list, ok = impl.FarTerms(r, n, 40, m)
				if len(list) != 40 || !ok {
					t.Errorf("40 terms at %d: %v, %v", n, list, ok)
				}
			}
		}
		for _, m := range []int64{1, 0, -1, -2, -10, 1000001, 1000002, math.MinInt64, math.MaxInt64, 1<<32 + 10} {
			wantNoFarTerms(t, r, 0, m)
			wantNoFarTerms(t, r, 5, m)
			wantNoPeriod(t, r, m)
		}
	}
}

// The residue of a number with 60 digits has nothing to do with its sign, but that they are not the same.
func TestSignsOfGreatNumbers(t *testing.T) {
	great := []string{nines(60), "-" + nines(60), tenTo(59), "-" + tenTo(59), "-1", "1", "-" + tenTo(30) + "7"}
	for _, m := range append(slices.Clone(someModuli), 999961, 11, 13, 37) {
		for _, x := range great {
			for _, y := range great {
				r := rec(x + ";" + y)
				checkNear(t, r, 3, m)
				checkBack(t, r, 3, m)
				got, ok := impl.FarTerm(r, 0, m)
				wantInt(t, "residue of "+x, got, ok, restOf(x, m), true)
				got, ok = impl.FarTerm(r, 1, m)
				wantInt(t, "residue of "+x+" times "+y, got, ok, restOf(x, m)*restOf(y, m)%m, true)
			}
		}
	}
}

func TestExactTermsAtTheEdge(t *testing.T) {
	most, great := nines(60), tenTo(59)
	for _, c := range []struct {
		r    string
		n    int
		want string
	}{
		{"1;10", 59, great}, {"1;10", 60, ""}, {"1;1/10", 59, "1/" + great}, {"1;1/10", 60, ""}, {"-1;10", 59, "-" + great}, {"-1;10", 60, ""}, {"1;-10", 59, "-" + great}, {"1;-10", 60, ""}, {"9;10", 59, "9" + strings.Repeat("0", 59)}, {"1;2", 199, "803469022129495137770981046170581301261101496891396417650688"}, {"1;2", 200, ""},
		{"1;-2", 199, "-803469022129495137770981046170581301261101496891396417650688"}, {"1;1/2", 199, "1/803469022129495137770981046170581301261101496891396417650688"}, {"1;1/2", 200, ""}, {most + ";1", 200, most}, {"-" + most + ";-1", 200, "-" + most}, {"-" + most + ";-1", 199, most}, {most + ",1;1,1", 2, ""}, {most + ",-1;1,1", 2, nines(59) + "8"},
		{"0,1;0," + great, 200, "0"}, {"0,1;0," + great, 199, ""}, {"0,1;0,1/" + great, 200, "0"}, {"0,1;0,1/" + great, 3, "1/" + great}, {"0,1;0,1/" + great, 5, ""}, {most + "/" + great + ",0;0,1", 200, most + "/" + great}, {most + "/" + great + ",0;0,1", 199, "0"}, {"5;0", 0, "5"}, {"5;0", 1, "0"}, {"5;0", 200, "0"},
		{"1,2,3,4,5,6,7,8;0,0,0,0,0,0,0,1", 200, "1"}, {"1,2,3,4,5,6,7,8;0,0,0,0,0,0,0,1", 199, "8"}, {"0,1;1,1", 200, "280571172992510140037611932413038677189525"}, {"1/2,1/3;0,0", 1, "1/3"}, {"1/2,1/3;0,0", 2, "0"}, {"1/2;2/3", 1, "1/3"}, {"-1/2;2/3", 2, "-2/9"}, {"2/3;3/2", 1, "1"},
		{most + "/" + great + ";" + great + "/" + most, 1, "1"}, {most + "/" + great + ";" + great + "/" + most, 2, great + "/" + most}, {most + "/" + great + ";" + great + "/" + most, 3, ""},
	} {
		if found := textOf(termsOf(rec(c.r), c.n+1)[c.n]); found != c.want {
			t.Fatalf("the test wants %s at %d of %s, which is %s", c.want, c.n, c.r, found)
		}
		got, ok := impl.FarExact(rec(c.r), int64(c.n))
		wantText(t, fmt.Sprintf("term at %d of %s", c.n, c.r), got, ok, c.want)
	}
	for _, n := range []int64{-1, 201, 202, math.MinInt64, math.MaxInt64, 1 << 32} {
		for _, r := range []impl.Recurrence{{}, rec("0;0"), rec("1;1"), rec("0,1;1,1")} {
			text, ok := impl.FarExact(r, n)
			wantText(t, fmt.Sprint("term at ", n), text, ok, "")
		}
	}
}

// Numbers in between can have thousands of digits, while the term is short.
func TestShortTermsOfGreatRecurrences(t *testing.T) {
	random := rand.New(rand.NewPCG(73, 74))
	for _, base := range []string{"5;1", "1/3;-1", "1,2;0,1", "0,1,-1/2;0,0,1"} {
		for _, below := range []string{"1", tenTo(57)} {
			factor := []string{}
			for len(factor) < orderLimit-len(rec(base).Start) {
				above := intOf(strings.TrimLeft(greatWhole(random, 1).Start[0], "-")[:50])
				factor = append(factor, new(big.Rat).SetFrac(above, intOf(below)).RatString())
			}
			r, ok := longer(rec(base), append(factor, "1"))
			if !ok || len(r.Start) != orderLimit {
				t.Fatalf("the test makes no recurrence of %s", base)
			}
			for _, n := range []int64{0, 8, 9, 50, 199, 200} {
				want := textOf(termsOf(rec(base), int(n)+1)[n])
				got, ok := impl.FarExact(r, n)
				wantText(t, fmt.Sprintf("term at %d of %s, made longer", n, base), got, ok, want)
			}
		}
	}
	r := greatRecurrence(random, 8)
	text, ok := impl.FarExact(r, 200)
	wantText(t, "term at 200 of great fractions", text, ok, "")
	for i := range r.Start {
		r.Start[i] = "0"
	}
	text, ok = impl.FarExact(r, 200)
	wantText(t, "term at 200 of zeros with great fractions", text, ok, "0")
}

func TestTermsWithNegativeIndicesAtTheEdge(t *testing.T) {
	for _, c := range []struct {
		r    string
		n, m int64
		want int64
		ok   bool
	}{
		{"0,1;1,1", 0, 10, 0, true}, {"0,1;1,1", 1, 10, 1, true}, {"0,1;1,1", 2, 10, 9, true}, {"0,1;1,1", 3, 10, 2, true}, {"0,1;1,1", 200, 10, 5, true}, {"0,1;1,1", 201, 10, 0, false}, {"0,1;1,1", -1, 10, 0, false}, {"0,1;1,1", math.MinInt64, 10, 0, false}, {"0,1;1,1", math.MaxInt64, 10, 0, false},
		{"1;2", 1, 7, 4, true}, {"1;2", 1, 6, 0, false}, {"1;2", 0, 6, 0, false}, {"1;2", 1, 9, 5, true}, {"1;2", 1, 2, 0, false}, {"1;3", 1, 2, 1, true}, {"1;3", 1, 9, 0, false}, {"1;3", 1, 1000000, 666667, true}, {"1;6", 1, 35, 6, true}, {"1;6", 1, 15, 0, false}, {"1;6", 1, 4, 0, false},
		{"1;0", 0, 7, 0, false}, {"1;0", 1, 7, 0, false}, {"5;7", 0, 7, 0, false}, {"5;14", 1, 7, 0, false}, {"5;-7", 1, 7, 0, false}, {"5;-1", 1, 7, 2, true}, {"5;-1", 2, 7, 5, true}, {"5;-1", 0, 7, 5, true}, {"-5;-1", 0, 7, 2, true}, {"1;-2", 1, 7, 3, true}, {"1;8", 1, 7, 1, true}, {"1;-6", 1, 7, 1, true}, {"1,1;1,0", 0, 2, 0, false}, {"1,1;0,1", 1, 2, 1, true}, {"1,0;0,1", 1, 2, 0, true},
		{"1,2,3;2,2,1", 0, 2, 1, true}, {"1,2,3;1,1,2", 0, 2, 0, false}, {"1,2,3;1,1,2", 0, 3, 1, true}, {"0,0,0,0,0,0,0,5;1,0,0,0,0,0,0,1", 1, 10, 5, true}, {"3,0,0,0,0,0,0,0;0,0,0,0,0,0,0,1", 1, 10, 0, true}, {"3,0,0,0,0,0,0,0;0,0,0,0,0,0,0,1", 8, 10, 3, true}, {"none;none", 0, 7, 0, false}, {"none;none", 1, 2, 0, false},
		{"1;" + nines(60), 1, 7, 0, false}, {"1;" + nines(60), 1, 10, 9, true}, {"1;-" + nines(60), 1, 10, 1, true}, {"1;" + tenTo(59), 1, 1000000, 0, false}, {"1;1", 200, 2, 1, true}, {"1;1", 201, 2, 0, false}, {"1;1", 0, 1, 0, false}, {"1;1", 0, 1000001, 0, false}, {"1;1", 0, 0, 0, false}, {"1;1", 0, -7, 0, false}, {"999999;999999", 1, 1000000, 1, true},
	} {
		got, ok := impl.BackTerm(rec(c.r), c.n, c.m)
		wantInt(t, fmt.Sprintf("term at -%d modulo %d of %s", c.n, c.m, c.r), got, ok, c.want, c.ok)
		if list := backRests(rec(c.r), 1, max(c.m, 2)); c.ok && restOf(rec(c.r).Start[0], c.m) != list[0] {
			t.Errorf("the oracle says %v of %s", list, c.r)
		}
	}
	random := rand.New(rand.NewPCG(75, 76))
	for order := range orderLimit {
		for _, m := range someModuli {
			checkBack(t, greatWhole(random, order+1), exactLimit+1, m)
		}
	}
}

// powerWithPeriod returns a number whose powers modulo a prime m have just the period q; m is at most limit.
func powerWithPeriod(q, limit int64) (int64, int64) {
	for m := q + 1; m <= limit; m += q {
		if !big.NewInt(m).ProbablyPrime(20) {
			continue
		}
		for b := int64(2); b < 50; b++ {
			c := square{{b}}.power((m-1)/q, m)[0][0]
			period, power := int64(1), c
			for power != 1 {
				power = power * c % m
				period++
			}
			if period == q {
				return c, m
			}
		}
	}
	panic("no such prime")
}

// periodic returns a recurrence with one coefficient, before which some terms are left out, gap terms between those that depend on each other, and the modulus.
func periodic(twos int, q int64, gap int) (impl.Recurrence, int64) {
	scale := int64(1) << twos
	c, m := powerWithPeriod(q, farLimit/scale)
	for twos > 0 && c%4 != 2 {
		c += m
	}
	r := impl.Recurrence{Start: copies("0", gap), Coeffs: copies("0", gap)}
	r.Start[gap-1], r.Coeffs[gap-1] = "1", impl.NumberOf(c)
	return r, m * scale
}

func TestPeriodsAtTheEdge(t *testing.T) {
	for _, c := range []struct {
		twos   int
		q      int64
		gap    int
		before int64
		length int64
	}{
		{0, 4998, 1, 0, 4998}, {0, 5000, 1, 0, 5000}, {0, 5001, 1, 0, 5001}, {0, 2500, 2, 0, 5000}, {0, 625, 8, 0, 5000}, {0, 626, 8, 0, 5008}, {0, 1667, 3, 0, 5001}, {0, 714, 7, 0, 4998}, {0, 715, 7, 0, 5005},
		{1, 4999, 1, 1, 4999}, {1, 5000, 1, 1, 5000}, {2, 4998, 1, 2, 4998}, {2, 4999, 1, 2, 4999}, {3, 4997, 1, 3, 4997}, {3, 4998, 1, 3, 4998}, {4, 4994, 1, 4, 4994}, {4, 4997, 1, 4, 4997}, {5, 1245, 4, 20, 4980}, {5, 1246, 4, 20, 4984},
		{6, 4994, 1, 6, 4994}, {6, 619, 8, 48, 4952}, {6, 620, 8, 48, 4960}, {7, 618, 8, 56, 4944}, {7, 619, 8, 56, 4952}, {9, 20, 8, 72, 160}, {10, 10, 4, 40, 40}, {12, 2, 8, 96, 16},
	} {
		r, m := periodic(c.twos, c.q, c.gap)
		if c.before+c.length > periodLimit {
			wantNoPeriod(t, r, m)
			if _, _, found := periodOf(r, m); found {
				t.Errorf("the oracle finds a period modulo %d of %s", m, recText(r))
			}
			continue
		}
		p, q, ok := impl.PeriodOf(r, m)
		wantPair(t, fmt.Sprintf("period modulo %d of %s", m, recText(r)), p, q, ok, c.before, c.length, true)
		checkPeriod(t, r, m)
	}
}

func TestPeriodsWithMuchLeftOut(t *testing.T) {
	odd := ";0,0,0,0,0,0,0,2"
	for _, c := range []struct {
		r             string
		m             int64
		before, cycle int64
	}{
		{"1,1,1,1,1,1,1,1" + odd, 524288, 152, 1}, {"1,1,1,1,1,1,1,2" + odd, 524288, 151, 1}, {"2,1,1,1,1,1,1,1" + odd, 524288, 152, 1}, {"0,0,0,0,0,0,0,1" + odd, 524288, 152, 1}, {"1,0,0,0,0,0,0,0" + odd, 524288, 145, 1}, {"0,0,0,0,0,0,0,0" + odd, 524288, 0, 1}, {"1;2", 524288, 19, 1}, {"1;2", 12, 2, 2}, {"1;6", 36, 2, 1}, {"1;0", 2, 1, 1}, {"0;0", 2, 0, 1}, {"2;0", 2, 0, 1}, {"1,2,3,4,5,6,7,8;0,0,0,0,0,0,0,0", 10, 8, 1}, {"1,2,3,4,5,6,7,10;0,0,0,0,0,0,0,0", 10, 7, 1},
		{"7;1", 10, 0, 1}, {"0,1;1,0", 10, 1, 1}, {"5,1;1,0", 10, 1, 1}, {"5,3,1;1,0,0", 10, 2, 1}, {"5,3,1,2;0,1,0,0", 10, 2, 2}, {"0,1;1,1", 2, 0, 3}, {"0,1;1,1", 10, 0, 60}, {"0,1;1,1", 1000, 0, 1500}, {"2,1;1,1", 5, 0, 4}, {"1,1;0,1", 7, 0, 1}, {"1;-1", 2, 0, 1}, {"1;-1", 3, 0, 2},
	} {
		p, q, ok := impl.PeriodOf(rec(c.r), c.m)
		wantPair(t, fmt.Sprintf("period modulo %d of %s", c.m, c.r), p, q, ok, c.before, c.cycle, true)
		checkPeriod(t, rec(c.r), c.m)
	}
}

func TestZerosAtTheEdge(t *testing.T) {
	for _, c := range []struct {
		r        string
		m        int64
		residues []int64
		zeros    []int64
	}{
		{"2,1;1,1", 5, []int64{1, 2, 3, 4}, []int64{}}, {"1;2", 12, []int64{1, 2, 4, 8}, []int64{}}, {"1;1", 2, []int64{1}, []int64{}}, {"1,1,1,1,1,1,1,0;0,0,0,0,0,0,0,1", 2, []int64{0, 1}, []int64{7}}, {"1,0;0,1", 3, []int64{0, 1}, []int64{1}}, {"0,1;0,1", 3, []int64{0, 1}, []int64{0}}, {"0,1;1,0", 3, []int64{0, 1}, []int64{0}}, {"2,0,1;1,0,0", 3, []int64{0, 1, 2}, []int64{1}}, {"0;1", 5, []int64{0}, []int64{0}}, {"5;1", 5, []int64{0}, []int64{0}}, {"-5;1", 5, []int64{0}, []int64{0}},
		{"3;2", 12, []int64{0, 3, 6}, []int64{2}}, {"0,0,3,1;1,0,0,0", 7, []int64{0, 1, 3}, []int64{0, 1}}, {"1;2", 8, []int64{0, 1, 2, 4}, []int64{3}}, {"1,2;0,0", 3, []int64{0, 1, 2}, []int64{2}}, {"-1;1", 1000000, []int64{999999}, []int64{}}, {"-1;-1", 1000000, []int64{1, 999999}, []int64{}}, {"0,1;1,1", 4, []int64{0, 1, 2, 3}, []int64{0}}, {"0,1;1,1", 2, []int64{0, 1}, []int64{0}}, {"0,1;1,1", 3, []int64{0, 1, 2}, []int64{0, 4}},
	} {
		what := fmt.Sprintf("modulo %d of %s", c.m, c.r)
		list, ok := impl.ResiduesOf(rec(c.r), c.m)
		wantInts(t, "residues "+what, list, ok, c.residues)
		list, ok = impl.ZeroPlaces(rec(c.r), c.m)
		wantInts(t, "zeros "+what, list, ok, c.zeros)
		first, ok := impl.FirstZero(rec(c.r), c.m)
		if len(c.zeros) == 0 {
			wantInt(t, "first zero "+what, first, ok, 0, false)
		} else {
			wantInt(t, "first zero "+what, first, ok, c.zeros[0], true)
		}
		checkPeriod(t, rec(c.r), c.m)
	}
	// The first term is 0, but the period is too long.
	wantNoPeriod(t, rec("0,1;1,1"), 999983)
	wantNoPeriod(t, rec("0;1000,1"), 7)
	wantNoPeriod(t, rec("0,1;1,1"), 1000000)
}

func TestInversesAtTheEdge(t *testing.T) {
	for _, m := range someModuli {
		x, ok := impl.InverseOf(1, m)
		wantInt(t, fmt.Sprint("inverse of 1 modulo ", m), x, ok, 1, true)
		x, ok = impl.InverseOf(m-1, m)
		wantInt(t, fmt.Sprint("inverse of -1 modulo ", m), x, ok, m-1, true)
		for _, a := range []int64{0, m, m + 1, 2*m + 1, -1, -m, 1 - m, math.MinInt64, math.MinInt64 + 1, math.MaxInt64} {
			x, ok = impl.InverseOf(a, m)
			wantInt(t, fmt.Sprintf("inverse of %d modulo %d", a, m), x, ok, 0, false)
		}
		for d := int64(2); d < min(m, 60); d++ {
			if m%d == 0 {
				x, ok = impl.InverseOf(d, m)
				wantInt(t, fmt.Sprintf("inverse of %d modulo %d", d, m), x, ok, 0, false)
				x, ok = impl.InverseOf(m-d, m)
				wantInt(t, fmt.Sprintf("inverse of %d modulo %d", m-d, m), x, ok, 0, false)
			}
		}
	}
	for _, m := range []int64{1, 0, -1, -7, 1000001, 1000003, math.MinInt64, math.MaxInt64} {
		for _, a := range []int64{0, 1, 2, -1} {
			x, ok := impl.InverseOf(a, m)
			wantInt(t, fmt.Sprintf("inverse of %d modulo %d", a, m), x, ok, 0, false)
		}
	}
	for _, c := range [][3]int64{{3, 10, 7}, {2, 3, 2}, {2, 999983, 499992}, {999981, 999983, 499991}, {333333, 1000000, 999997}, {618033, 1000000, 7697}} {
		want := inverseOf(c[0], c[1])
		x, ok := impl.InverseOf(c[0], c[1])
		wantInt(t, fmt.Sprint("inverse ", c), x, ok, want, true)
		if want != c[2] {
			t.Errorf("the test wants %d, which is %d", c[2], want)
		}
	}
}

func TestJoinedResiduesAtTheEdge(t *testing.T) {
	for _, c := range []struct {
		a, m, b, n, want, multiple int64
		ok                         bool
	}{
		{2, 4, 4, 6, 10, 12, true}, {1, 4, 4, 6, 0, 0, false}, {2, 3, 3, 5, 8, 15, true}, {0, 2, 0, 2, 0, 2, true}, {1, 2, 1, 2, 1, 2, true}, {0, 2, 1, 2, 0, 0, false}, {5, 12, 1, 4, 5, 12, true}, {1, 4, 5, 12, 5, 12, true}, {3, 4, 5, 12, 0, 0, false}, {11, 12, 3, 4, 11, 12, true}, {3, 4, 11, 12, 11, 12, true}, {7, 10, 7, 10, 7, 10, true}, {7, 10, 8, 10, 0, 0, false},
		{999999, 1000000, 999998, 999999, 999998999999, 999999000000, true}, {999998, 999999, 999999, 1000000, 999998999999, 999999000000, true}, {0, 1000000, 0, 999999, 0, 999999000000, true}, {0, 1000000, 1, 999999, 1000000, 999999000000, true}, {1, 1000000, 0, 999999, 999998000001, 999999000000, true},
		{999999, 1000000, 999999, 1000000, 999999, 1000000, true}, {0, 1000000, 999999, 1000000, 0, 0, false}, {999999, 1000000, 1, 2, 999999, 1000000, true}, {0, 2, 999999, 1000000, 0, 0, false}, {0, 500000, 500000, 1000000, 500000, 1000000, true}, {0, 0, 0, 0, 0, 0, false}, {0, 1, 0, 2, 0, 0, false}, {0, 2, 0, 1, 0, 0, false}, {0, 1, 0, 1, 0, 0, false}, {2, 2, 0, 3, 0, 0, false}, {0, 3, 2, 2, 0, 0, false}, {-1, 2, 0, 3, 0, 0, false}, {0, 3, -1, 2, 0, 0, false},
		{0, 1000001, 0, 2, 0, 0, false}, {0, 2, 0, 1000001, 0, 0, false}, {0, -2, 0, 2, 0, 0, false}, {0, 2, 0, -2, 0, 0, false}, {math.MinInt64, 2, 0, 2, 0, 0, false}, {0, 2, math.MaxInt64, 2, 0, 0, false}, {0, math.MaxInt64, 0, math.MaxInt64, 0, 0, false}, {0, math.MinInt64, 0, math.MinInt64, 0, 0, false},
	} {
		got, multiple, ok := impl.JoinResidues(c.a, c.m, c.b, c.n)
		what := fmt.Sprintf("%d modulo %d and %d modulo %d", c.a, c.m, c.b, c.n)
		if isModulus(c.m) && isModulus(c.n) && c.a >= 0 && c.a < c.m && c.b >= 0 && c.b < c.n {
			checkJoin(t, c.a, c.m, c.b, c.n)
			if x, of := joined(c.a, c.m, c.b, c.n); max(x, 0) != c.want || of != c.multiple || (x >= 0) != c.ok {
				t.Errorf("the test wants %v, which is %d, %d", c, x, of)
			}
			continue
		}
		wantPair(t, what, got, multiple, ok, c.want, c.multiple, c.ok)
	}
}
