package tests

import (
	"fmt"
	"math/big"
	"math/rand/v2"
	"slices"
	"testing"

	"loop.example/g01120/impl"
)

// Promise 5: far terms fulfil the recurrence, also with negative indices, and repeat with the told period.

func TestFarLimits(t *testing.T) {
	got := []int64{impl.MaxFarModulus, impl.MaxIndex, impl.MaxPeriod, impl.MaxExact}
	if want := []int64{1000000, 1000000000000000000, 5000, 200}; !slices.Equal(got, want) {
		t.Errorf("got %v, want %v", got, want)
	}
}

func TestExamplesOfFarTerms(t *testing.T) {
	fibonacci := rec("0,1;1,1")
	before, length, ok := impl.PeriodOf(fibonacci, 10)
	wantPair(t, "period modulo 10", before, length, ok, 0, 60, true)
	x, ok := impl.BackTerm(fibonacci, 2, 10)
	wantInt(t, "u(-2) modulo 10", x, ok, 9, true)
	c, multiple, ok := impl.JoinResidues(2, 4, 4, 6)
	wantPair(t, "2 modulo 4 and 4 modulo 6", c, multiple, ok, 10, 12, true)
	x, ok = impl.FarTerm(fibonacci, 60, 10)
	wantInt(t, "u(60) modulo 10", x, ok, 0, true)
	x, ok = impl.FarSum(fibonacci, 7, 1000)
	wantInt(t, "sum of 7 terms", x, ok, 20, true)
	text, ok := impl.FarExact(fibonacci, 100)
	wantText(t, "u(100)", text, ok, "354224848179261915075")
}

func TestIsWhole(t *testing.T) {
	for _, s := range []string{"none;none", "0;0", "1;2", "0,1;1,1", "-7;" + nines(60), "-" + nines(60) + ";-" + nines(60), "1,2,3,4,5,6,7,8;8,7,6,5,4,3,2,1"} {
		if !impl.IsWhole(rec(s)) || !isWhole(rec(s)) {
			t.Errorf("%s is whole", s)
		}
	}
	if !impl.IsWhole(impl.Recurrence{}) || !impl.IsWhole(impl.Recurrence{Coeffs: []string{}}) {
		t.Error("the recurrence of the order 0 is whole")
	}
	for _, s := range []string{"1/2;1", "1;1/2", "1,2;1,-1/3", "1,-1/3;1,2", "1/" + nines(60) + ";1", "1;none", "none;1", "1,2;1", "1;1,2", "1,2,3,4,5,6,7,8,9;1,2,3,4,5,6,7,8,9", "x;1", "1;x", ";", "2/1;1", "1;-0", "1;4/2", "01;1", nines(61) + ";1", "1;" + nines(61), "1;1/0"} {
		if impl.IsWhole(rec(s)) || isWhole(rec(s)) {
			t.Errorf("%s is not whole", s)
		}
	}
}

// someModuli are primes, powers of primes and products of several primes.
var someModuli = []int64{2, 3, 4, 5, 6, 7, 8, 9, 10, 12, 16, 30, 97, 100, 210, 1024, 2187, 9973, 30030, 65536, 510510, 524288, 531441, 720720, 994009, 999983, 999999, 1000000}

func TestAllTinyFarTerms(t *testing.T) {
	t.Parallel()
	for i, r := range tinyRecurrences([]string{"-1", "0", "1"}, 3) {
		for _, m := range []int64{2, 3, 4, 6} {
			checkNear(t, r, 8, m)
			checkBack(t, r, 8, m)
			checkPeriod(t, r, m)
		}
		checkNear(t, r, 8, someModuli[i%len(someModuli)])
		checkExact(t, r, i%12)
	}
	for i, r := range tinyRecurrences([]string{"2", "3", "6"}, 2) {
		for _, m := range someModuli[:12] {
			checkNear(t, r, 6, m)
			checkBack(t, r, 6, m)
			checkPeriod(t, r, m)
			checkFar(t, r, int64(i)*(indexLimit/200), m)
		}
	}
}

func TestRandomFarTerms(t *testing.T) {
	t.Parallel()
	random := rand.New(rand.NewPCG(51, 52))
	for order := range orderLimit + 1 {
		for _, m := range someModuli {
			for _, r := range []impl.Recurrence{wholeRecurrence(random, order), greatWhole(random, order)} {
				checkNear(t, r, 12, m)
				checkFar(t, r, random.Int64N(indexLimit), m)
				checkFar(t, r, random.Int64N(1000000), m)
				checkBack(t, r, 20, m)
				checkPeriod(t, r, m)
			}
			other := 2 + random.Int64N(farLimit-1)
			checkFar(t, greatWhole(random, order), random.Int64N(indexLimit), other)
			checkBack(t, greatWhole(random, order), exactLimit+1, other)
			checkPeriod(t, wholeRecurrence(random, order), 2+random.Int64N(40))
		}
	}
}

// Each power of 2, and the numbers beside it, are indices with special digits.
func TestIndicesNearPowersOfTwo(t *testing.T) {
	random := rand.New(rand.NewPCG(53, 54))
	for power := range 60 {
		for _, n := range []int64{1<<power - 1, 1 << power, 1<<power + 1} {
			checkFar(t, wholeRecurrence(random, power%9), n, someModuli[power%len(someModuli)])
		}
	}
}

// Terms far away fulfil the recurrence, and a whole number of periods changes nothing.
func TestFarTermsRepeat(t *testing.T) {
	random := rand.New(rand.NewPCG(55, 56))
	found := 0
	for range 300 {
		r, m := wholeRecurrence(random, random.IntN(5)), 2+random.Int64N(30)
		before, length, ok := impl.PeriodOf(r, m)
		if !ok {
			continue
		}
		found++
		n := before + random.Int64N(length)
		rounds := (int64(indexLimit) - n) / length
		near, ok := impl.FarTerms(r, n, termLimit, m)
		wantInts(t, "near terms of "+recText(r), near, ok, firstRests(r, int(n)+termLimit, m)[n:])
		far, ok := impl.FarTerms(r, n+rounds*length, termLimit, m)
		wantInts(t, "far terms of "+recText(r), far, ok, near)
	}
	if found < 200 {
		t.Errorf("only %d periods", found)
	}
}

// A sum and the term behind it are the next sum.
func TestSumsOfFarTerms(t *testing.T) {
	random := rand.New(rand.NewPCG(57, 58))
	for range 500 {
		r, m, n := greatWhole(random, random.IntN(9)), 2+random.Int64N(farLimit-1), random.Int64N(indexLimit)
		sum, okSum := impl.FarSum(r, n, m)
		term, okTerm := impl.FarTerm(r, n, m)
		next, okNext := impl.FarSum(r, n+1, m)
		if !okSum || !okTerm || !okNext || next != (sum+term)%m {
			t.Errorf("sums at %d modulo %d of %s: %d and %d are not %d", n, m, recText(r), sum, term, next)
		}
	}
}

func TestExactTerms(t *testing.T) {
	t.Parallel()
	random := rand.New(rand.NewPCG(59, 60))
	for order := range orderLimit + 1 {
		for range 30 {
			r := smallRecurrence(random, order)
			for _, n := range []int{0, 1, 5, 7, 8, 9, 30, 60, 199, 200} {
				checkExact(t, r, n)
			}
			checkExact(t, wholeRecurrence(random, order), random.IntN(exactLimit+1))
		}
		for _, n := range []int{0, 1, 2, 7, 8, 9, 12} {
			checkExact(t, greatRecurrence(random, order), n)
			checkExact(t, greatWhole(random, order), n)
		}
	}
	for n := range exactLimit + 1 {
		for _, s := range []string{"0,1;1,1", "2,1;1,1", "1/3;-1/2", "0,0,1;0,1/2,1/2", "1,-1/2,1/3;0,0,-1", "7,0;0,4/9", "1,1;3,-2"} {
			checkExact(t, rec(s), n)
		}
	}
}

// Residues of exact terms are residues of far terms.
func TestExactTermsAndResidues(t *testing.T) {
	random := rand.New(rand.NewPCG(63, 64))
	for range 200 {
		r, n, m := wholeRecurrence(random, random.IntN(9)), random.Int64N(exactLimit+1), 2+random.Int64N(farLimit-1)
		exact, ok := impl.FarExact(r, n)
		if !ok {
			continue
		}
		x, ok := impl.FarTerm(r, n, m)
		wantInt(t, fmt.Sprintf("residue at %d of %s", n, recText(r)), x, ok, restOf(exact, m), true)
	}
}

func TestInverses(t *testing.T) {
	check := func(a, m int64) {
		got, ok := impl.InverseOf(a, m)
		want := inverseOf(a, m)
		wantInt(t, fmt.Sprintf("inverse of %d modulo %d", a, m), got, ok, want, want > 0)
	}
	for m := int64(2); m <= 130; m++ {
		for a := range m {
			check(a, m)
			found := int64(0)
			for b := range m {
				if a*b%m == 1 {
					found = b
				}
			}
			if found != inverseOf(a, m) {
				t.Errorf("the oracle has the inverse %d of %d modulo %d", inverseOf(a, m), a, m)
			}
		}
	}
	random := rand.New(rand.NewPCG(65, 66))
	for _, m := range someModuli {
		for range 200 {
			check(random.Int64N(m), m)
		}
	}
	for range 2000 {
		m := 2 + random.Int64N(farLimit-1)
		check(random.Int64N(m), m)
	}
}

func TestJoinedResidues(t *testing.T) {
	for m := int64(2); m <= 16; m++ {
		for n := int64(2); n <= 16; n++ {
			for a := range m {
				for b := range n {
					checkJoin(t, a, m, b, n)
				}
			}
		}
	}
	random := rand.New(rand.NewPCG(67, 68))
	for range 300 {
		m, n := 2+random.Int64N(2000), 2+random.Int64N(2000)
		c := random.Int64N(m * n)
		checkJoin(t, c%m, m, c%n, n)
		checkJoin(t, random.Int64N(m), m, random.Int64N(n), n)
	}
	for range 2000 {
		m, n := 2+random.Int64N(farLimit-1), 2+random.Int64N(farLimit-1)
		if shared := 1 + random.Int64N(1000); shared*2 < min(m, n) {
			m, n = m/shared*shared, n/shared*shared
		}
		multiple := new(big.Int).Div(new(big.Int).Mul(big.NewInt(m), big.NewInt(n)), big.NewInt(divisorOf(m, n))).Int64()
		c := random.Int64N(multiple)
		got, of, ok := impl.JoinResidues(c%m, m, c%n, n)
		wantPair(t, fmt.Sprintf("the remainders of %d modulo %d and %d", c, m, n), got, of, ok, c, multiple, true)
		if divisorOf(m, n) > 1 {
			got, of, ok = impl.JoinResidues(c%m, m, (c+1)%n, n)
			wantPair(t, fmt.Sprintf("the remainders of %d modulo %d and of %d modulo %d", c, m, c+1, n), got, of, ok, 0, 0, false)
		}
	}
}
