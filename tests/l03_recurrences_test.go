package tests

import (
	"fmt"
	"math/big"
	"math/rand/v2"
	"slices"
	"strings"
	"testing"

	"loop.example/g01120/impl"
)

// Promise 4: no recurrence is shorter than the shortest one, whose order is a Hankel rank, and the minimal one has the same sequence.

func TestRecurrenceLimits(t *testing.T) {
	got := []int64{impl.MaxOrder, impl.MaxTerms, impl.MaxRows}
	if want := []int64{8, 40, 20}; !slices.Equal(got, want) {
		t.Errorf("got %v, want %v", got, want)
	}
}

func TestExamplesOfRecurrences(t *testing.T) {
	fibonacci, ok := impl.ReadRecurrence("0,1;1,1")
	wantRecurrence(t, "reading", fibonacci, ok, "0,1;1,1")
	terms, ok := impl.TermsOf(fibonacci, 6)
	wantList(t, "terms", terms, ok, "0,1,1,2,3,5")
	p, ok := impl.PolyOf(fibonacci)
	wantPoly(t, "characteristic polynomial", p, ok, "x^2-x-1")
	r, ok := impl.ShortestOf([]string{"1", "2", "4", "8"})
	wantRecurrence(t, "powers of 2", r, ok, "1;2")
	rank, ok := impl.HankelRank([]string{"1", "2", "4", "8"})
	wantInt(t, "Hankel rank of powers of 2", rank, ok, 1, true)
	r, ok = impl.ShortestOf([]string{"0", "1"})
	wantRecurrence(t, "0, 1", r, ok, "")
}

func TestValidRecurrence(t *testing.T) {
	good := []string{"none;none", "0;0", "1;2", "0,1;1,1", "-1/2;" + nines(60), "1/" + nines(60) + ";-" + tenTo(59) + "/" + nines(60), "1,2,3,4,5,6,7,8;0,0,0,0,0,0,0,0"}
	for _, s := range good {
		if r := rec(s); !impl.ValidRecurrence(r) || !isRecurrence(r) {
			t.Errorf("%s is a recurrence", s)
		}
	}
	if !impl.ValidRecurrence(impl.Recurrence{}) || !impl.ValidRecurrence(impl.Recurrence{Start: []string{}}) {
		t.Error("there is a recurrence of the order 0")
	}
	bad := []string{"1;none", "none;1", "1,2;1", "1;1,2", "1,2,3,4,5,6,7,8,9;1,2,3,4,5,6,7,8,9", "1,2,3,4,5,6,7,8;1,2,3,4,5,6,7", "x;1", "1;x", ";1", "1;", ";", "2/4;1", "1;-0", "1;5/1", "+1;1", "1;01", nines(61) + ";1", "1;1/" + tenTo(60), "1,2;1,1/0", "\xff;1"}
	for _, s := range bad {
		if r := rec(s); impl.ValidRecurrence(r) || isRecurrence(r) {
			t.Errorf("%s is no recurrence", s)
		}
	}
}

// checkTerms compares first terms with the oracle, and what is said of them.
func checkTerms(t *testing.T, r impl.Recurrence) {
	t.Helper()
	all := termsOf(r, termLimit)
	for _, count := range []int{0, 1, 2, 3, 4, 5, 6, 7, 8, 9, 10, 20, 39, 40} {
		want, fits := numbersOf(all[:count])
		got, ok := impl.TermsOf(r, int64(count))
		if ok != fits || !slices.Equal(got, want) {
			t.Fatalf("%d terms of %s: got %q, %v, want %q, %v", count, recText(r), got, ok, want, fits)
		}
		if !fits {
			continue
		}
		if !impl.IsRecurrenceOf(r, want) {
			t.Fatalf("%s has the terms %q", recText(r), want)
		}
		if count > 0 {
			want[count-1] = new(big.Rat).Add(all[count-1], big.NewRat(1, 3)).RatString()
			if areTerms(want) && impl.IsRecurrenceOf(r, want) {
				t.Fatalf("%s has not the terms %q", recText(r), want)
			}
		}
	}
}

// checkPolynomial checks the characteristic polynomial and the companion matrix.
func checkPolynomial(t *testing.T, r impl.Recurrence) {
	t.Helper()
	order := len(r.Coeffs)
	want := append(copies("0", order), "1")
	rows := []string{}
	for i, c := range r.Coeffs {
		want[order-1-i] = new(big.Rat).Neg(ratOf(c)).RatString()
		row := copies("0", order)
		if i > 0 {
			row[i-1] = "1"
		} else {
			row = r.Coeffs
		}
		rows = append(rows, strings.Join(row, ","))
	}
	p, ok := impl.PolyOf(r)
	if !ok || !slices.Equal(p, want) {
		t.Fatalf("polynomial of %s: got %q, %v, want %q", recText(r), p, ok, want)
	}
	back, ok := impl.FromPoly(want, r.Start)
	wantRecurrence(t, "from its polynomial", back, ok, recText(r))
	matrix, ok := impl.CompanionOf(r)
	wantMatrix(t, "companion of "+recText(r), matrix, ok, strings.Join(rows, "|"))
}

func checkRecurrenceText(t *testing.T, r impl.Recurrence) {
	t.Helper()
	text, ok := impl.RecurrenceText(r)
	wantText(t, "text", text, ok, recText(r))
	read, ok := impl.ReadRecurrence(recText(r))
	wantRecurrence(t, "reading", read, ok, recText(r))
}

// checkMinimal compares the minimal recurrence with the oracle.
func checkMinimal(t *testing.T, r impl.Recurrence) {
	t.Helper()
	least, ok := impl.MinimalOf(r)
	wantRecurrence(t, "minimal one of "+recText(r), least, ok, minimalText(r))
	if ok && (!impl.IsSameSequence(r, least) || firstDifference(r, least) >= 0) {
		t.Errorf("the minimal one of %s has not the same sequence", recText(r))
	}
}

// checkDifference compares where two sequences differ first with the oracle.
func checkDifference(t *testing.T, r, s impl.Recurrence, want int) {
	t.Helper()
	what := recText(r) + " and " + recText(s)
	if found := firstDifference(r, s); found != want {
		t.Fatalf("the test wants %d of %s, which is %d", want, what, found)
	}
	if impl.IsSameSequence(r, s) != (want < 0) || impl.IsSameSequence(s, r) != (want < 0) {
		t.Errorf("same sequences: %s", what)
	}
	for _, pair := range [][2]impl.Recurrence{{r, s}, {s, r}} {
		n, ok := impl.FirstDifference(pair[0], pair[1])
		wantInt(t, "first difference of "+what, n, ok, int64(max(want, 0)), want >= 0)
	}
}

func checkRecurrence(t *testing.T, r impl.Recurrence) {
	t.Helper()
	checkTerms(t, r)
	checkPolynomial(t, r)
	checkRecurrenceText(t, r)
	checkMinimal(t, r)
	checkDifference(t, r, r, -1)
}

func TestAllTinyRecurrences(t *testing.T) {
	t.Parallel()
	for _, r := range tinyRecurrences([]string{"-1", "0", "1"}, 3) {
		checkRecurrence(t, r)
	}
	all := tinyRecurrences([]string{"0", "1", "2"}, 2)
	for _, r := range all {
		checkRecurrence(t, r)
		for _, s := range all {
			checkDifference(t, r, s, firstDifference(r, s))
		}
	}
}

func TestRandomRecurrences(t *testing.T) {
	t.Parallel()
	random := rand.New(rand.NewPCG(31, 32))
	for order := range orderLimit + 1 {
		for range 40 {
			r, s := smallRecurrence(random, order), smallRecurrence(random, random.IntN(orderLimit+1))
			checkRecurrence(t, r)
			checkDifference(t, r, s, firstDifference(r, s))
		}
		for range 4 {
			checkRecurrence(t, greatRecurrence(random, order))
		}
	}
}

func TestRecurrencesThatAreLongerThanNeeded(t *testing.T) {
	random := rand.New(rand.NewPCG(33, 34))
	for range 400 {
		r := smallRecurrence(random, random.IntN(5))
		other, ok := longer(r, smallPoly(random, 4))
		if !ok {
			continue
		}
		checkMinimal(t, other)
		checkDifference(t, r, other, -1)
		again, ok := longer(r, smallPoly(random, 4))
		if ok {
			checkDifference(t, again, other, -1)
		}
		if last := len(other.Start) - 1; last >= 0 {
			other.Start = slices.Clone(other.Start)
			other.Start[last] = new(big.Rat).Add(ratOf(other.Start[last]), big.NewRat(1, 1)).RatString()
			checkMinimal(t, other)
			checkDifference(t, r, other, last)
		}
	}
	for range 60 {
		r := greatRecurrence(random, random.IntN(3))
		if other, ok := longer(r, smallPoly(random, 3)); ok {
			checkMinimal(t, other)
			checkDifference(t, r, other, -1)
		}
	}
}

// checkShortest compares the shortest recurrence and the Hankel rank with the oracle.
func checkShortest(t *testing.T, terms []string) {
	t.Helper()
	want := shortestText(terms)
	r, ok := impl.ShortestOf(terms)
	wantRecurrence(t, "shortest one of "+listText(terms), r, ok, want)
	rank, okRank := impl.HankelRank(terms)
	if len(terms) == 0 {
		wantInt(t, "Hankel rank without terms", rank, okRank, 0, false)
		return
	}
	wantInt(t, "Hankel rank of "+listText(terms), rank, okRank, int64(hankelRank(terms)), true)
	if ok && (int64(len(r.Coeffs)) != rank || !impl.IsRecurrenceOf(r, terms)) {
		t.Errorf("shortest one of %q: %s, with the Hankel rank %d", terms, recText(r), rank)
	}
}

func TestAllTinyLists(t *testing.T) {
	t.Parallel()
	tinyLists([]string{"-1", "0", "1"}, 7, func(list []string) { checkShortest(t, list) })
	tinyLists([]string{"0", "1/2", "2"}, 6, func(list []string) { checkShortest(t, list) })
	tinyLists([]string{"0", "1"}, 11, func(list []string) { checkShortest(t, list) })
}

// Of the first terms of a sequence, twice as many as the least order are enough, and one less is not.
func TestHowManyTermsAreNeeded(t *testing.T) {
	t.Parallel()
	random := rand.New(rand.NewPCG(35, 36))
	for order := range orderLimit + 1 {
		for range 12 {
			least, ok := impl.MinimalOf(smallRecurrence(random, order))
			terms, fits := numbersOf(termsOf(least, termLimit))
			if !ok || !fits {
				continue
			}
			k := len(least.Start)
			for count := range 2*orderLimit + 4 {
				checkShortest(t, terms[:count])
				if count >= 2*k {
					r, ok := impl.ShortestOf(terms[:count])
					wantRecurrence(t, "from enough terms", r, ok, recText(least))
				}
			}
			if k > 0 {
				r, ok := impl.ShortestOf(terms[:2*k-1])
				if ok && len(r.Start) >= k {
					t.Errorf("%q has no recurrence of the order %d, got %s", terms[:2*k-1], k, recText(r))
				}
			}
			checkShortest(t, terms)
			checkLastTermMatters(t, terms)
		}
	}
}

// checkLastTermMatters changes the last one of many terms.
func checkLastTermMatters(t *testing.T, terms []string) {
	t.Helper()
	changed := slices.Clone(terms)
	last := len(terms) - 1
	changed[last] = new(big.Rat).Add(ratOf(terms[last]), big.NewRat(1, 1)).RatString()
	r, ok := impl.ShortestOf(changed)
	wantRecurrence(t, "with a changed last term", r, ok, "")
	checkShortest(t, changed)
}

func TestSequencesThatDifferLate(t *testing.T) {
	for _, c := range [][2]string{
		{"none;none", "1;0"}, {"none;none", "0,0,0,0,0,0,0,1;1,1,1,1,1,1,1,1"}, {"0,0,0,0,0,0,0,1;0,0,0,0,0,0,0,1", "0,0,0,0,0,0,0,1;0,0,0,0,0,0,0,0"}, {"1;1", "1,1;1,1"}, {"1;2", "1,2;0,3"}, {"0,1;1,1", "0,1;1,1"},
	} {
		r, s := rec(c[0]), rec(c[1])
		checkDifference(t, r, s, firstDifference(r, s))
	}
	n, ok := impl.FirstDifference(rec("0,0,0,0,0,0,0,1;0,0,0,0,0,0,0,1"), rec("0,0,0,0,0,0,0,1;0,0,0,0,0,0,0,0"))
	wantInt(t, "as late as can be", n, ok, 15, true)
	random := rand.New(rand.NewPCG(37, 38))
	found := 0
	for range 300 {
		first, second := smallRecurrence(random, random.IntN(orderLimit+1)).Coeffs, smallRecurrence(random, random.IntN(orderLimit+1)).Coeffs
		if len(first)+len(second) == 0 {
			continue
		}
		if r, s, ok := parting(first, second); ok {
			found++
			checkDifference(t, r, s, len(first)+len(second)-1)
		}
	}
	if found < 100 {
		t.Errorf("only %d of the pairs differ late", found)
	}
}

func TestRanksOfRandomMatrices(t *testing.T) {
	random := rand.New(rand.NewPCG(39, 40))
	for round := range 400 {
		rows, columns, inner := 1+random.IntN(8), 1+random.IntN(8), random.IntN(6)
		if round%20 == 0 {
			rows, columns, inner = rowLimit, rowLimit-random.IntN(2), random.IntN(rowLimit+1)
		}
		left, right := []rats{}, []rats{}
		entry := func() *big.Rat { return big.NewRat(int64(random.IntN(7)-3), int64(1+random.IntN(3))) }
		for range rows {
			row := rats{}
			for range inner {
				row = append(row, entry())
			}
			left = append(left, row)
		}
		for range inner {
			row := rats{}
			for range columns {
				row = append(row, entry())
			}
			right = append(right, row)
		}
		matrix := productOf(left, right, columns)
		rank, ok := impl.RankOf(matrix)
		wantInt(t, fmt.Sprint("rank of ", matrix), rank, ok, int64(rankOfTexts(matrix)), true)
	}
}

// productOf is a product of matrices, of which the second one has so many columns.
func productOf(left, right []rats, columns int) [][]string {
	product := [][]string{}
	for _, row := range left {
		list := []string{}
		for k := range columns {
			sum := new(big.Rat)
			for i, x := range row {
				sum.Add(sum, new(big.Rat).Mul(x, right[i][k]))
			}
			list = append(list, sum.RatString())
		}
		product = append(product, list)
	}
	return product
}

func TestHankelMatrices(t *testing.T) {
	terms := listFrom("1,2,4,8,-1/2,0,7")
	for rows := -1; rows <= 9; rows++ {
		for columns := -1; columns <= 9; columns++ {
			want := ""
			if rows >= 1 && columns >= 1 && rows+columns-1 <= len(terms) {
				parts := []string{}
				for _, row := range hankelOf(terms, rows, columns) {
					parts = append(parts, strings.Join(row, ","))
				}
				want = strings.Join(parts, "|")
			}
			got, ok := impl.HankelOf(terms, int64(rows), int64(columns))
			wantMatrix(t, fmt.Sprint("Hankel matrix ", rows, " ", columns), got, ok, want)
			if ok {
				rank, ok := impl.RankOf(got)
				wantInt(t, "its rank", rank, ok, int64(rankOfTexts(got)), true)
			}
		}
	}
	got, ok := impl.HankelOf([]string{"1", "2", "4", "8"}, 2, 3)
	wantMatrix(t, "powers of 2", got, ok, "1,2,4|2,4,8")
}

func TestRecurrenceTexts(t *testing.T) {
	for _, s := range []string{"none;none", "0;0", "1;2", "-1/2;7", "0,1;1,1", "1,2,3,4,5,6,7,8;8,7,6,5,4,3,2,1"} {
		checkRecurrenceText(t, rec(s))
	}
	longest := copies("-"+nines(60)+"/"+tenTo(59), 8)
	checkRecurrenceText(t, impl.Recurrence{Start: longest, Coeffs: longest})
	text, ok := impl.RecurrenceText(impl.Recurrence{})
	wantText(t, "text of the order 0", text, ok, "none;none")
	for _, r := range []impl.Recurrence{{Start: []string{"1"}}, {Coeffs: []string{"1"}}, rec("1,2;1"), rec("x;1"), rec("1;2/4"), {Start: copies("1", 9), Coeffs: copies("1", 9)}, {Start: []string{"1,2"}, Coeffs: []string{"1"}}, {Start: []string{"none"}, Coeffs: []string{"none"}}} {
		text, ok := impl.RecurrenceText(r)
		wantText(t, fmt.Sprint("text of ", r), text, ok, "")
	}
}

// isRecurrenceText takes a text apart and judges its parts.
func isRecurrenceText(s string) bool {
	parts := strings.Split(s, ";")
	return len(parts) == 2 && isRecurrence(rec(s))
}

func TestTextsThatAreNearlyRecurrences(t *testing.T) {
	for _, s := range []string{
		"", ";", "none", "none;", ";none", "none;none;", ";none;none", "none;none;none", "none,none;none,none", "None;none", "1", "1,1", "1;", ";1", "1;1;", "1;1;1", "0,1;1;1", "0;1,1;1", "1;none", "none;1", "1;2,3", "1,2;3", "1,;2,", ",1;,2", "1,,2;1,,2", "1, 2;1,2", "1;2 ", " 1;2", "1 ;2", "1; 2",
		"1:2", "1,2", "1;2\n", "1;-0", "+1;2", "2/4;1", "1;01", "1/1;1", "1;x", "1,2,3,4,5,6,7,8,9;1,2,3,4,5,6,7,8,9", "0,1;1,1,", "0,1,;1,1", "(0,1);(1,1)", nines(61) + ";1", "1;1/" + tenTo(60), "1;\xff", "1；2", "１;2",
		strings.Repeat("1,", 100000) + "1;1", "1;" + strings.Repeat("1,", 100000) + "1", strings.Repeat("9", 100000) + ";1", strings.Repeat(";", 100000), strings.Repeat("none;", 50000) + "none", "1;" + strings.Repeat("1", 100000),
	} {
		r, ok := impl.ReadRecurrence(s)
		wantRecurrence(t, fmt.Sprintf("reading %.60q", s), r, ok, "")
		if isRecurrenceText(s) {
			t.Errorf("the oracle reads %.60q", s)
		}
	}
}

func TestReadRecurrenceOfAllShortTexts(t *testing.T) {
	check := func(s string) {
		r, ok := impl.ReadRecurrence(s)
		want := ""
		if isRecurrenceText(s) {
			want = s
		}
		wantRecurrence(t, fmt.Sprintf("reading %q", s), r, ok, want)
	}
	textsUpTo("012,;-/", 6, check)
	for _, before := range []string{"none", "1", "0,1", "", "1,none"} {
		textsUpTo("1,;neo", 5, func(s string) {
			check(before + ";" + s)
			check(before + s)
		})
		check(before + ";none")
	}
}
