package tests

import (
	"fmt"
	"math/big"
	"math/rand/v2"
	"slices"
	"strings"
	"testing"

	"loop.example/g01120/impl"
)

// What far terms are, in another way than the program's: powers of matrices, terms one by one, and states that are kept in a map.

// These limits are written out, so that wrong constants of the program are found.
const (
	farLimit    = 1000000
	indexLimit  = 1000000000000000000
	periodLimit = 5000
	exactLimit  = 200
)

// isWhole says which recurrences are whole.
func isWhole(r impl.Recurrence) bool {
	return isRecurrence(r) && !strings.Contains(recText(r), "/")
}

func isModulus(m int64) bool { return m >= 2 && m <= farLimit }

func isIndex(n int64) bool { return n >= 0 && n <= indexLimit }

// restOf is the residue of an integer.
func restOf(s string, m int64) int64 {
	return new(big.Int).Mod(intOf(s), big.NewInt(m)).Int64()
}

func restsOf(list []string, m int64) []int64 {
	rests := []int64{}
	for _, s := range list {
		rests = append(rests, restOf(s, m))
	}
	return rests
}

// A square is a matrix of residues.
type square [][]int64

func (a square) times(b square, m int64) square {
	product := square{}
	for _, row := range a {
		list := make([]int64, len(a))
		for k := range list {
			for i, x := range row {
				list[k] = (list[k] + x*b[i][k]) % m
			}
		}
		product = append(product, list)
	}
	return product
}

func (a square) power(n, m int64) square {
	if n == 0 {
		unit := square{}
		for i := range a {
			unit = append(unit, make([]int64, len(a)))
			unit[i][i] = 1 % m
		}
		return unit
	}
	half := a.power(n/2, m)
	half = half.times(half, m)
	if n%2 == 1 {
		return half.times(a, m)
	}
	return half
}

// farState is the state that begins at n, and the sum of the terms before: one matrix leads from each state to the next one, and adds its first term to the sum.
func farState(r impl.Recurrence, n, m int64) ([]int64, int64) {
	order := len(r.Start)
	next := make(square, order+1)
	for i := range next {
		next[i] = make([]int64, order+1)
	}
	for i, c := range restsOf(r.Coeffs, m) {
		next[order-1][order-1-i] = c
		if i > 0 {
			next[i-1][i] = 1
		}
	}
	next[order][order] = 1
	if order > 0 {
		next[order][0] = 1
	}
	state := append(restsOf(r.Start, m), 0)
	far := []int64{}
	for _, row := range next.power(n, m) {
		sum := int64(0)
		for i, x := range row {
			sum += x * state[i] % m
		}
		far = append(far, sum%m)
	}
	return far[:order], far[order]
}

// goOn adds terms to residues of terms until there are so many.
func goOn(terms []int64, coeffs []string, count int, m int64) []int64 {
	terms, factors := slices.Clone(terms), restsOf(coeffs, m)
	for len(terms) < count {
		sum := int64(0)
		for i, c := range factors {
			sum += c * terms[len(terms)-1-i] % m
		}
		terms = append(terms, sum%m)
	}
	return terms[:count]
}

func firstRests(r impl.Recurrence, count int, m int64) []int64 {
	return goOn(restsOf(r.Start, m), r.Coeffs, count, m)
}

// divisorOf is the greatest common divisor.
func divisorOf(a, b int64) int64 {
	return new(big.Int).GCD(nil, nil, big.NewInt(a), big.NewInt(b)).Int64()
}

// inverseOf is 0 if there is none.
func inverseOf(a, m int64) int64 {
	inverse := new(big.Int).ModInverse(big.NewInt(a), big.NewInt(m))
	if inverse == nil {
		return 0
	}
	return inverse.Int64()
}

// backRests are the residues of u(0), u(-1) and so on, and nothing if they are not decided.
func backRests(r impl.Recurrence, count int, m int64) []int64 {
	order := len(r.Coeffs)
	if order == 0 {
		return nil
	}
	coeffs, terms, list := restsOf(r.Coeffs, m), restsOf(r.Start, m), []int64{}
	inverse := inverseOf(coeffs[order-1], m)
	if inverse == 0 {
		return nil
	}
	for len(list) < count {
		list = append(list, terms[0])
		before := terms[order-1]
		for i, c := range coeffs[:order-1] {
			before += (m - c) * terms[order-2-i] % m
		}
		terms = append([]int64{before % m * inverse % m}, terms[:order-1]...)
	}
	return list
}

// periodOf looks each state up among those before it.
func periodOf(r impl.Recurrence, m int64) (int, int, bool) {
	order := len(r.Start)
	terms := firstRests(r, periodLimit+1+order, m)
	seen := map[[orderLimit]int64]int{}
	for n := range periodLimit + 1 {
		state := [orderLimit]int64{}
		copy(state[:], terms[n:n+order])
		if before, found := seen[state]; found {
			return before, n - before, true
		}
		seen[state] = n
	}
	return 0, 0, false
}

// wantInts checks a result that is a list of integers; nil means that the function fails.
func wantInts(t *testing.T, what string, got []int64, ok bool, want []int64) {
	t.Helper()
	if ok != (want != nil) || !slices.Equal(got, want) {
		t.Errorf("%s: got %v, %v, want %v", what, got, ok, want)
	}
}

// wantPair checks two results that are integers.
func wantPair(t *testing.T, what string, a, b int64, ok bool, wantA, wantB int64, wantOK bool) {
	t.Helper()
	if a != wantA || b != wantB || ok != wantOK {
		t.Errorf("%s: got %d, %d, %v, want %d, %d, %v", what, a, b, ok, wantA, wantB, wantOK)
	}
}

// checkFar compares terms and sums from an index on with powers of a matrix.
func checkFar(t *testing.T, r impl.Recurrence, n, m int64) {
	t.Helper()
	what := fmt.Sprintf("at %d modulo %d of %s", n, m, recText(r))
	state, sum := farState(r, n, m)
	terms := goOn(state, r.Coeffs, termLimit, m)
	for _, count := range []int{0, 1, 2, termLimit} {
		got, ok := impl.FarTerms(r, n, int64(count), m)
		wantInts(t, fmt.Sprint(count, " terms ", what), got, ok, terms[:count])
	}
	got, ok := impl.FarTerm(r, n, m)
	wantInt(t, "term "+what, got, ok, terms[0], true)
	got, ok = impl.FarSum(r, n, m)
	wantInt(t, "sum "+what, got, ok, sum, true)
}

// checkNear compares the terms and sums at the first indices with those that are made one by one.
func checkNear(t *testing.T, r impl.Recurrence, count int, m int64) {
	t.Helper()
	terms, sum := firstRests(r, count+termLimit, m), int64(0)
	for n := range count {
		what := fmt.Sprintf("at %d modulo %d of %s", n, m, recText(r))
		got, ok := impl.FarTerm(r, int64(n), m)
		wantInt(t, "term "+what, got, ok, terms[n], true)
		got, ok = impl.FarSum(r, int64(n), m)
		wantInt(t, "sum "+what, got, ok, sum, true)
		size := (n*7 + 1) % (termLimit + 1)
		list, ok := impl.FarTerms(r, int64(n), int64(size), m)
		wantInts(t, "terms "+what, list, ok, terms[n:n+size])
		sum = (sum + terms[n]) % m
	}
}

// checkBack compares the terms with negative indices with the oracle, and checks that the recurrence holds for all of them.
func checkBack(t *testing.T, r impl.Recurrence, count int, m int64) {
	t.Helper()
	want, list := backRests(r, count, m), []int64{}
	for n := range count {
		got, ok := impl.BackTerm(r, int64(n), m)
		what := fmt.Sprintf("term at -%d modulo %d of %s", n, m, recText(r))
		if want == nil {
			wantInt(t, what, got, ok, 0, false)
			continue
		}
		wantInt(t, what, got, ok, want[n], true)
		list = append(list, got)
	}
	if want == nil {
		return
	}
	slices.Reverse(list)
	all := append(list, restsOf(r.Start, m)[1:]...)
	if again := goOn(all[:len(r.Start)], r.Coeffs, len(all), m); !slices.Equal(all, again) {
		t.Errorf("modulo %d, the terms before those of %s are no terms of it: %v", m, recText(r), all)
	}
}

// checkPeriod compares what repeats with the oracle.
func checkPeriod(t *testing.T, r impl.Recurrence, m int64) {
	t.Helper()
	what := fmt.Sprintf("modulo %d of %s", m, recText(r))
	p, q, found := periodOf(r, m)
	before, length, ok := impl.PeriodOf(r, m)
	wantPair(t, "period "+what, before, length, ok, int64(p), int64(q), found)
	var rests, places []int64
	if found {
		rests, places = firstRests(r, p+q, m), []int64{}
	}
	for n, x := range rests {
		if x == 0 {
			places = append(places, int64(n))
		}
	}
	slices.Sort(rests)
	list, ok := impl.ResiduesOf(r, m)
	wantInts(t, "residues "+what, list, ok, slices.Compact(rests))
	list, ok = impl.ZeroPlaces(r, m)
	wantInts(t, "zeros "+what, list, ok, places)
	first, ok := impl.FirstZero(r, m)
	if len(places) == 0 {
		wantInt(t, "first zero "+what, first, ok, 0, false)
		return
	}
	wantInt(t, "first zero "+what, first, ok, places[0], true)
}

// checkExact compares a term with the oracle.
func checkExact(t *testing.T, r impl.Recurrence, n int) {
	t.Helper()
	got, ok := impl.FarExact(r, int64(n))
	wantText(t, fmt.Sprintf("term at %d of %s", n, recText(r)), got, ok, textOf(termsOf(r, n+1)[n]))
}

// joined is the least number with two remainders, found among all with the first one; it is -1 if there is none.
func joined(a, m, b, n int64) (int64, int64) {
	multiple := m * n / divisorOf(m, n)
	for c := a; c < multiple; c += m {
		if c%n == b {
			return c, multiple
		}
	}
	return -1, 0
}

// checkJoin compares joined residues with the oracle.
func checkJoin(t *testing.T, a, m, b, n int64) {
	t.Helper()
	c, multiple := joined(a, m, b, n)
	got, of, ok := impl.JoinResidues(a, m, b, n)
	wantPair(t, fmt.Sprintf("%d modulo %d and %d modulo %d", a, m, b, n), got, of, ok, max(c, 0), multiple, c >= 0)
}

// wholeRecurrence has small integers, of which many are 0.
func wholeRecurrence(random *rand.Rand, order int) impl.Recurrence {
	r := impl.Recurrence{}
	for range order {
		r.Start = append(r.Start, impl.NumberOf(int64((random.IntN(9)-4)*random.IntN(2))))
		r.Coeffs = append(r.Coeffs, impl.NumberOf(int64((random.IntN(9)-4)*random.IntN(2))))
	}
	return r
}

// greatWhole has integers with many digits.
func greatWhole(random *rand.Rand, order int) impl.Recurrence {
	great := func() string {
		var text strings.Builder
		text.WriteString([]string{"", "-"}[random.IntN(2)])
		text.WriteByte(byte('1' + random.IntN(9)))
		for range 50 + random.IntN(10) {
			text.WriteByte(byte('0' + random.IntN(10)))
		}
		return text.String()
	}
	r := impl.Recurrence{}
	for range order {
		r.Start, r.Coeffs = append(r.Start, great()), append(r.Coeffs, great())
	}
	return r
}
