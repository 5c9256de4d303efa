package tests

import (
	"fmt"
	"math"
	"math/big"
	"math/rand/v2"
	"slices"
	"strings"
	"testing"

	"loop.example/g01120/impl"
)

// Promise 4 at its edges.

func TestTheOrderZero(t *testing.T) {
	for _, zero := range []impl.Recurrence{{}, {Start: []string{}, Coeffs: []string{}}, {Coeffs: []string{}}} {
		for _, count := range []int64{0, 1, 40} {
			terms, ok := impl.TermsOf(zero, count)
			if !ok || !slices.Equal(terms, copies("0", int(count))) {
				t.Errorf("%d terms: got %q, %v", count, terms, ok)
			}
			if !impl.IsRecurrenceOf(zero, copies("0", int(count))) || impl.IsRecurrenceOf(zero, append(copies("0", int(max(count-1, 0))), "1")) {
				t.Errorf("it has %d zeros", count)
			}
		}
		least, ok := impl.MinimalOf(zero)
		wantRecurrence(t, "minimal one", least, ok, "none;none")
		p, ok := impl.PolyOf(zero)
		wantPoly(t, "polynomial", p, ok, "1")
		matrix, ok := impl.CompanionOf(zero)
		wantMatrix(t, "companion", matrix, ok, "")
		text, ok := impl.RecurrenceText(zero)
		wantText(t, "text", text, ok, "none;none")
		checkDifference(t, zero, zero, -1)
		checkDifference(t, zero, rec("0,0;5,7"), -1)
		checkDifference(t, zero, rec("1;1"), 0)
		checkDifference(t, zero, rec("0,0,-1/2;1,1,1"), 2)
	}
	for _, start := range [][]string{nil, {}} {
		r, ok := impl.FromPoly([]string{"1"}, start)
		wantRecurrence(t, "from the polynomial 1", r, ok, "none;none")
	}
	for _, zeros := range []string{"0;0", "0;7", "0,0;1,1", "0,0,0,0,0,0,0,0;1,2,3,4,5,6,7,8"} {
		least, ok := impl.MinimalOf(rec(zeros))
		wantRecurrence(t, "minimal one of zeros", least, ok, "none;none")
	}
	for count := range termLimit + 1 {
		r, ok := impl.ShortestOf(copies("0", count))
		wantRecurrence(t, "shortest one of zeros", r, ok, "none;none")
		rank, ok := impl.HankelRank(copies("0", count))
		wantInt(t, "Hankel rank of zeros", rank, ok, 0, count > 0)
	}
	r, ok := impl.ReadRecurrence("none;none")
	wantRecurrence(t, "reading", r, ok, "none;none")
}

func TestShortestRecurrencesAtTheEdge(t *testing.T) {
	for _, c := range []struct{ terms, want string }{
		{"5", ""}, {"5,0", "5;0"}, {"0,5", ""}, {"5,0,0", "5;0"}, {"5,5", "5;1"}, {"2,3", "2;3/2"}, {"2,3,9/2", "2;3/2"}, {"2,3,4", ""}, {"2,3,4,5", "2,3;2,-1"}, {"0,1,0,0", "0,1;0,0"}, {"0,1,0", ""}, {"0,0,1", ""},
		{"1,0,1", ""}, {"1,0,1,0", "1,0;0,1"}, {"0,0,0,5,0,0,0,0", "0,0,0,5;0,0,0,0"}, {"0,0,0,5,0,0,0", ""}, {"0,0,0,5,0,0,0,5", "0,0,0,5;0,0,0,1"}, {"1,2,4,8,16,32,64,128,256,513", ""}, {"1,2,4,8,16,32,64,128,256,512", "1;2"}, {"1,1,2,3,5,8,13,21", "1,1;1,1"}, {"0,1,1,2", "0,1;1,1"}, {"0,1,1", ""},
		{"0,0,0,0,0,0,0,1,0,0,0,0,0,0,0,0", "0,0,0,0,0,0,0,1;0,0,0,0,0,0,0,0"}, {"0,0,0,0,0,0,0,1,0,0,0,0,0,0,0", ""}, {"0,0,0,0,0,0,0,0,1,0,0,0,0,0,0,0,0,0", ""}, {"1,0,0,0,0,0,0,0,1,0,0,0,0,0,0,0", "1,0,0,0,0,0,0,0;0,0,0,0,0,0,0,1"}, {"1,0,0,0,0,0,0,0,0,1,0,0,0,0,0,0,0,0,1,0", ""},
		{"none", "none;none"}, {"7,7,7,7,7,7,8", ""}, {"1,4,9,16,25,36", "1,4,9;3,-3,1"}, {"1,4,9,16,25", ""}, {"1,-1/2,1/4,-1/8", "1;-1/2"},
	} {
		terms := listFrom(c.terms)
		if found := shortestText(terms); found != c.want {
			t.Fatalf("the test wants %s of %s, which is %s", c.want, c.terms, found)
		}
		checkShortest(t, terms)
	}
	for _, count := range []int{8, 9} {
		sequence := []string{}
		for n := range termLimit {
			sequence = append(sequence, map[bool]string{true: "1", false: "0"}[n%count == count-1])
		}
		for terms := range termLimit + 1 {
			checkShortest(t, sequence[:terms])
		}
	}
	r, ok := impl.ShortestOf(copies("1", 40))
	wantRecurrence(t, "40 terms", r, ok, "1;1")
	for _, bad := range [][]string{copies("1", 41), copies("0", 41), copies("1", 5000), append(copies("1", 39), "x"), {"1", "2/4"}, {"", ""}, {"0", "0", "-0"}, {nines(61), "1"}} {
		r, ok := impl.ShortestOf(bad)
		wantRecurrence(t, fmt.Sprintf("%.40q", bad), r, ok, "")
		rank, ok := impl.HankelRank(bad)
		wantInt(t, fmt.Sprintf("%.40q", bad), rank, ok, 0, false)
		matrix, ok := impl.HankelOf(bad, 1, 1)
		wantMatrix(t, fmt.Sprintf("%.40q", bad), matrix, ok, "")
		if impl.IsRecurrenceOf(rec("1;1"), bad) || impl.IsRecurrenceOf(impl.Recurrence{}, bad) {
			t.Errorf("%.40q are no terms", bad)
		}
	}
}

func TestCountsOfTerms(t *testing.T) {
	r := rec("1,2;1,1")
	for _, count := range []int64{-1, 41, 42, math.MinInt64, math.MaxInt64, math.MinInt64 + 40, 1 << 32} {
		terms, ok := impl.TermsOf(r, count)
		wantList(t, fmt.Sprint(count, " terms"), terms, ok, "")
	}
	for count, want := range map[int64]string{0: "none", 1: "1", 2: "1,2", 3: "1,2,3", 4: "1,2,3,5"} {
		terms, ok := impl.TermsOf(r, count)
		wantList(t, fmt.Sprint(count, " terms"), terms, ok, want)
	}
	if !impl.IsRecurrenceOf(rec("1;1"), copies("1", 40)) || impl.IsRecurrenceOf(rec("1;1"), copies("1", 41)) || !impl.IsRecurrenceOf(rec("1;1"), nil) {
		t.Error("terms are at most 40")
	}
	for _, bad := range []string{"1;none", "none;1", "x;1", "1;x", "1,2;1"} {
		terms, ok := impl.TermsOf(rec(bad), 0)
		wantList(t, "terms of "+bad, terms, ok, "")
		if impl.IsRecurrenceOf(rec(bad), nil) || impl.IsRecurrenceOf(rec(bad), []string{"1"}) {
			t.Errorf("%s is no recurrence", bad)
		}
	}
}

func TestDigitsOfTerms(t *testing.T) {
	most, great := nines(60), tenTo(59)
	for _, c := range []struct {
		r     string
		count int64
		fits  bool
	}{
		{"1;100", 30, true}, {"1;100", 31, false}, {"1;1/100", 30, true}, {"1;1/100", 31, false}, {"1;-100", 31, false}, {most + ";1", 40, true}, {most + ";2", 1, true}, {most + ";2", 2, false}, {"1/" + most + ";1/2", 1, true}, {"1/" + most + ";1/2", 2, false},
		{most + ";-1", 40, true}, {most + "/" + great + ";1", 40, true}, {most + ",1;1,1", 2, true}, {most + ",1;1,1", 3, false}, {most + ",-1;1,1", 3, true}, {most + ",-" + most + ";" + most + "," + most, 3, true}, {"1/" + most + ",-1/" + most + ";1/" + most + ",1/" + most, 3, true},
		{most + ",-" + most + ";" + most + "," + most, 4, false}, {great + ",0;0,10", 2, true}, {great + ",0;0,10", 3, false}, {"0," + great + ",0;1/10,10,0", 3, true}, {"0," + great + ",0;1/10,10,0", 4, false}, {"0," + great + ",0;1/10,10,0", 6, false}, {"0," + great + ",1;0,1/10,0", 40, true},
	} {
		want, fits := numbersOf(termsOf(rec(c.r), int(c.count)))
		terms, ok := impl.TermsOf(rec(c.r), c.count)
		if ok != c.fits || ok != fits || !slices.Equal(terms, want) {
			t.Errorf("%d terms of %s: got %q, %v", c.count, c.r, terms, ok)
		}
	}
	for _, c := range []struct {
		r, terms string
		want     bool
	}{
		{"1;" + great, "1," + great, true}, {"1;" + great, "1," + great + ",0", false}, {"1;" + great, "1," + great + ",1," + great, false}, {"1," + great + ";" + most + "," + most, "1," + great, true}, {most + ";" + most, most, true}, {most + ";" + most, most + "," + most, false},
		{"1/" + most + ";1/" + most, "1/" + most, true}, {"1/" + most + ";1/" + most, "1/" + most + ",0", false}, {most + ",-" + most + ";" + most + "," + most, most + ",-" + most + ",0", true}, {"1,2;1,1", "1", true}, {"1,2;1,1", "2", false}, {"1,2;1,1", "1,2,3,5,8", true}, {"1,2;1,1", "1,2,3,5,9", false},
	} {
		if impl.IsRecurrenceOf(rec(c.r), listFrom(c.terms)) != c.want {
			t.Errorf("%s has the terms %s: want %v", c.r, c.terms, c.want)
		}
	}
}

func TestDigitsOfShortestRecurrences(t *testing.T) {
	t.Parallel()
	most, great := nines(60), tenTo(59)
	for _, c := range []struct{ terms, want string }{
		{"1," + most, "1;" + most}, {most + ",1", most + ";1/" + most}, {tenTo(29) + ",1/" + tenTo(30), tenTo(29) + ";1/" + great}, {tenTo(30) + ",1/" + tenTo(30), ""}, {"1/" + tenTo(30) + "," + tenTo(29), "1/" + tenTo(30) + ";" + great}, {"1/" + tenTo(30) + "," + tenTo(30), ""},
		{most + ",-" + most, most + ";-1"}, {most + "," + great, most + ";" + great + "/" + most}, {"1/" + most + ",1/" + great, "1/" + most + ";" + most + "/" + great}, {"0,1/" + tenTo(29) + ",1,0", "0,1/" + tenTo(29) + ";" + tenTo(29) + ",-" + tenTo(58)}, {"0,1/" + tenTo(30) + ",1,0", ""}, {"0," + most + ",1,1/" + most, "0," + most + ";1/" + most + ",0"}, {most + ",0," + most + ",0", most + ",0;0,1"}, {"1,0," + most + ",0", "1,0;0," + most},
	} {
		if found := shortestText(listFrom(c.terms)); found != c.want {
			t.Fatalf("the test wants %s of %s, which is %s", c.want, c.terms, found)
		}
		checkShortest(t, listFrom(c.terms))
	}
	random := rand.New(rand.NewPCG(41, 42))
	for range 20 {
		period := greatRecurrence(random, 1+random.IntN(8)).Start
		terms := []string{}
		for len(terms) < termLimit {
			terms = append(terms, period...)
		}
		for _, count := range []int{len(period), 2*len(period) - 1, 2 * len(period), termLimit - 1, termLimit} {
			checkShortest(t, terms[:count])
		}
	}
	for range 60 {
		list := []string{}
		for range 1 + random.IntN(6) {
			list = append(list, randomNumber(random))
		}
		checkShortest(t, list)
	}
}

// The polynomial 1 + N x + x^2, times 1 - x, is 1 + (N-1) x - (N-1) x^2 - x^3: a shorter recurrence can have more digits.
func TestDigitsOfMinimalRecurrences(t *testing.T) {
	most, great := nines(60), tenTo(59)
	for _, c := range []struct{ r, want string }{
		{"0,1/" + great + ",-10;-" + most + "," + most + ",1", ""}, {"0,1/" + great + ",-1;-" + nines(59) + "," + nines(59) + ",1", "0,1/" + great + ";-" + great + ",-1"}, {"0,1,5;-" + most + "," + most + ",1", "0,1,5;-" + most + "," + most + ",1"},
		{"1,2," + most + ";-" + nines(59) + "8," + nines(59) + "8,1", "1,2," + most + ";-" + nines(59) + "8," + nines(59) + "8,1"}, {"1;" + most, "1;" + most}, {most + ";1/" + most, most + ";1/" + most}, {most + "," + most + ";" + most + ",-" + nines(59) + "8", most + ";1"}, {"1,1;" + great + ",-" + nines(59), "1;1"},
		{"1," + great + ";1" + strings.Repeat("0", 58) + "1,-" + great, "1;" + great}, {"1,1/" + great + ";1" + strings.Repeat("0", 58) + "1/" + great + ",-1/" + great, "1;1/" + great}, {most + ";0", most + ";0"}, {most + ",0;0,0", most + ";0"}, {"0," + most + ";0,0", "0," + most + ";0,0"},
	} {
		if found := minimalText(rec(c.r)); found != c.want {
			t.Fatalf("the test wants %s of %s, which is %s", c.want, c.r, found)
		}
		checkMinimal(t, rec(c.r))
	}
}

func TestDifferencesOfGreatSequences(t *testing.T) {
	most, great, more := nines(60), tenTo(59), "1"+strings.Repeat("0", 58)+"1"
	for _, c := range []struct {
		r, s string
		want int
	}{
		{"1;" + great, "1," + great + ";" + more + ",-" + great, -1}, {"1;" + great, "1," + great + ";" + great + ",1", 2}, {"1;" + great, "1," + great + ";" + great + ",1/" + most, 2}, {"1;" + great, "1," + more + ";" + great + ",0", 1}, {"1;" + most, "1;" + nines(59) + "8", 1}, {most + ";1", most + ";1/" + most, 1},
		{"1;1/" + great, "1,1/" + great + ";" + more + "/" + great + ",-1/" + great, -1}, {"1;1/" + great, "1,1/" + great + ";1/" + great + ",1/" + most, 2}, {most + ",1,2;" + most + ",1,0", most + ",1,2;" + most + ",1,1/" + most, 3}, {most + ";" + most, most + ";-" + most, 1}, {most + ";" + most, nines(59) + "8;" + most, 0},
	} {
		checkDifference(t, rec(c.r), rec(c.s), c.want)
	}
	random := rand.New(rand.NewPCG(43, 44))
	for order := range orderLimit + 1 {
		r := greatRecurrence(random, order)
		s := impl.Recurrence{Start: slices.Clone(r.Start), Coeffs: slices.Clone(r.Coeffs)}
		checkDifference(t, r, s, -1)
		if order > 0 {
			s.Coeffs[order-1] = randomNumber(random)
			checkDifference(t, r, s, firstDifference(r, s))
		}
	}
	for _, pair := range [][2]string{{"1;1", "1;none"}, {"1;none", "1;1"}, {"x;1", "x;1"}, {"1;2/4", "1;2/4"}, {"1,1;1", "1;1"}} {
		if impl.IsSameSequence(rec(pair[0]), rec(pair[1])) {
			t.Errorf("%v are no two recurrences", pair)
		}
		n, ok := impl.FirstDifference(rec(pair[0]), rec(pair[1]))
		wantInt(t, "first difference", n, ok, 0, false)
	}
}

func TestSizesOfHankelMatrices(t *testing.T) {
	terms := []string{}
	for n := range termLimit {
		terms = append(terms, impl.NumberOf(int64(n*n)))
	}
	for _, rows := range []int64{math.MinInt64, -20, -1, 0, 1, 2, 19, 20, 21, 40, math.MaxInt64} {
		for _, columns := range []int64{math.MinInt64, -20, -1, 0, 1, 2, 19, 20, 21, 40, math.MaxInt64} {
			for _, count := range []int{0, 1, 20, 38, 39, 40} {
				want := rows >= 1 && rows <= 20 && columns >= 1 && columns <= 20 && int(rows+columns) <= count+1
				got, ok := impl.HankelOf(terms[:count], rows, columns)
				if ok != want || !ok && got != nil || ok && fmt.Sprint(got) != fmt.Sprint(hankelOf(terms, int(rows), int(columns))) {
					t.Errorf("%d rows and %d columns of %d terms: got %v, %v", rows, columns, count, got, ok)
				}
			}
		}
	}
	for count := 1; count <= termLimit; count++ {
		rank, ok := impl.HankelRank(terms[:count])
		wantInt(t, fmt.Sprint("Hankel rank of ", count, " terms"), rank, ok, int64(hankelRank(terms[:count])), true)
		last := append(copies("0", count-1), "-1/3")
		rank, ok = impl.HankelRank(last)
		wantInt(t, fmt.Sprint("Hankel rank with ", count-1, " zeros"), rank, ok, 1, true)
	}
	// The middle one of 39 terms, alone, fills a diagonal of 20 elements; that of 40 terms fills one of 20 rows and 21 columns.
	for _, c := range [][3]int{{39, 19, 20}, {39, 18, 19}, {40, 19, 20}, {40, 20, 20}, {40, 21, 19}, {38, 18, 19}, {38, 19, 19}} {
		list := copies("0", c[0])
		list[c[1]] = "7"
		rank, ok := impl.HankelRank(list)
		wantInt(t, fmt.Sprint("Hankel rank of a diagonal ", c), rank, ok, int64(c[2]), true)
		if hankelRank(list) != c[2] {
			t.Errorf("the test wants %d, which is %d", c[2], hankelRank(list))
		}
	}
}

// The last column decides even if there are 21.
func TestHankelRankWithTwentyOneColumns(t *testing.T) {
	t.Parallel()
	random := rand.New(rand.NewPCG(45, 46))
	for range 30 {
		least, _ := impl.MinimalOf(smallRecurrence(random, 3))
		terms, fits := numbersOf(termsOf(least, termLimit))
		if !fits {
			continue
		}
		checkShortest(t, terms)
		for _, at := range []int{0, 20, 39} {
			changed := slices.Clone(terms)
			changed[at] = new(big.Rat).Add(ratOf(terms[at]), big.NewRat(1, 2)).RatString()
			checkShortest(t, changed)
		}
	}
}

func TestRanksAtTheEdge(t *testing.T) {
	unit := func(rows, columns int) [][]string {
		matrix := [][]string{}
		for i := range rows {
			row := copies("0", columns)
			if i < columns {
				row[i] = "-1/2"
			}
			matrix = append(matrix, row)
		}
		return matrix
	}
	for _, size := range [][2]int{{1, 1}, {1, 20}, {20, 1}, {20, 20}, {19, 20}, {20, 19}, {2, 3}} {
		matrix := unit(size[0], size[1])
		rank, ok := impl.RankOf(matrix)
		wantInt(t, fmt.Sprint("rank of a unit ", size), rank, ok, int64(min(size[0], size[1])), true)
		for _, row := range matrix {
			clear(row)
			copy(row, copies("0", len(row)))
		}
		rank, ok = impl.RankOf(matrix)
		wantInt(t, fmt.Sprint("rank of zeros ", size), rank, ok, 0, true)
		matrix[size[0]-1][size[1]-1] = "1/" + nines(60)
		rank, ok = impl.RankOf(matrix)
		wantInt(t, fmt.Sprint("rank with one number ", size), rank, ok, 1, true)
	}
	for _, bad := range [][][]string{
		nil, {}, {{}}, {nil}, {{}, {}}, {{"1"}, {}}, {{}, {"1"}}, {{"1"}, {"1", "2"}}, {{"1", "2"}, {"1"}}, {{"1", "2"}, {"1", "2"}, {"1"}}, {{"x"}}, {{"1", "2"}, {"2", "2/4"}}, {{nines(61)}}, {{"-0"}}, {{""}}, unit(21, 1), unit(1, 21), unit(21, 21), unit(21, 20), unit(20, 21), unit(5000, 5),
		{{"1", "0"}, {"0", "1"}, {"0", "0", "0"}},
	} {
		rank, ok := impl.RankOf(bad)
		wantInt(t, fmt.Sprintf("rank of %.60q", bad), rank, ok, 0, false)
	}
	rank, ok := impl.RankOf([][]string{{"1", "2"}, {"2", "4"}, {"0", "1"}})
	wantInt(t, "rank of three rows", rank, ok, 2, true)
}

// Numbers that are 0 modulo many primes are not 0, and determinants neither.
func TestRanksOfMultiplesOfPrimes(t *testing.T) {
	for _, power := range []uint{31, 32, 61, 62, 63, 64} {
		product := big.NewInt(1)
		prime := new(big.Int).Lsh(product, power)
		for {
			prime.Sub(prime, big.NewInt(1))
			if !prime.ProbablyPrime(20) {
				continue
			}
			next := new(big.Int).Mul(product, prime)
			if len(next.String()) > digitLimit {
				break
			}
			product = next
			row := copies(prime.String(), 2)
			rank, ok := impl.RankOf([][]string{row, row})
			wantInt(t, fmt.Sprint("rank of two rows ", row), rank, ok, 1, true)
		}
		p := product.String()
		for _, c := range []struct {
			matrix [][]string
			want   int64
		}{
			{[][]string{{p}}, 1}, {[][]string{{"0", p}}, 1}, {[][]string{{p, "1"}, {"0", p}}, 2}, {[][]string{{"1", "1"}, {"1", new(big.Int).Sub(product, big.NewInt(1)).String()}}, 2}, {[][]string{{p, p}, {p, p}}, 1}, {[][]string{{"1/" + p, p}, {p, "0"}}, 2}, {[][]string{{p, "0", "0"}, {"0", p, "0"}, {"0", "0", p}}, 3},
			{[][]string{{p, "1", "0"}, {"0", p, "1"}, {"0", "0", p}}, 3}, {[][]string{{p, "1", "2"}, {"0", "1/" + p, "0"}}, 2}, {[][]string{{p, "1"}, {"1", "1/" + p}}, 1},
		} {
			rank, ok := impl.RankOf(c.matrix)
			wantInt(t, fmt.Sprint("rank of ", c.matrix), rank, ok, c.want, true)
			if rankOfTexts(c.matrix) != int(c.want) {
				t.Errorf("the test wants %d of %v", c.want, c.matrix)
			}
		}
	}
}

// All numbers have about 60 digits above and below, so that determinants have thousands of digits.
func TestRanksOfGreatMatrices(t *testing.T) {
	t.Parallel()
	random := rand.New(rand.NewPCG(47, 48))
	great := func(rows, columns int) [][]string {
		matrix := [][]string{}
		for range rows {
			row := []string{}
			for len(row) < columns {
				if c := randomNumber(random); len(c) > 100 {
					row = append(row, c)
				}
			}
			matrix = append(matrix, row)
		}
		return matrix
	}
	matrix := great(6, 5)
	matrix[3] = matrix[1]
	matrix[5] = matrix[0]
	rank, ok := impl.RankOf(matrix)
	wantInt(t, "rank with rows twice", rank, ok, int64(rankOfTexts(matrix)), true)
	matrix = great(20, 20)
	rank, ok = impl.RankOf(matrix)
	wantInt(t, "rank of 20 rows", rank, ok, 20, true)
	for _, twice := range [][]int{{19}, {3, 17}, {0, 1, 2, 3, 4}} {
		other := slices.Clone(matrix)
		for _, i := range twice {
			other[i] = matrix[10]
		}
		rank, ok = impl.RankOf(other)
		wantInt(t, fmt.Sprint("rank with ", len(twice), " rows again"), rank, ok, int64(20-len(twice)), true)
	}
	rank, ok = impl.HankelRank(append(slices.Clone(matrix[0]), matrix[1]...))
	wantInt(t, "Hankel rank of great terms", rank, ok, 20, true)
}

func TestCharacteristicPolynomialsAtTheEdge(t *testing.T) {
	one := "1,1,1,1,1,1,1,1"
	for _, c := range []struct{ poly, start, want string }{
		{"x^2-x-1", "0,1", "0,1;1,1"}, {"x-2", "1", "1;2"}, {"x", "5", "5;0"}, {"x^2", "1,2", "1,2;0,0"}, {"x^8-1/2", one, one + ";0,0,0,0,0,0,0,1/2"}, {"x^8", one, one + ";0,0,0,0,0,0,0,0"}, {"1", "none", "none;none"}, {"x^3+2x^2-3x+4", "1,2,3", "1,2,3;-2,3,-4"},
		{"x^9-1", one + ",1", ""}, {"x^12", "1,1,1,1,1,1,1,1,1,1,1,1", ""}, {"x^2-x-1", "0", ""}, {"x^2-x-1", "0,1,1", ""}, {"x^2-x-1", "none", ""}, {"1", "0", ""}, {"2", "none", ""}, {"2x-1", "1", ""}, {"-x+1", "1", ""}, {"1/2x^2-1", "1,1", ""}, {"x-1", "x", ""}, {"x-1", "2/4", ""}, {"x-1", nines(61), ""},
		{"x-" + nines(60), "-" + nines(60), "-" + nines(60) + ";" + nines(60)}, {"x+1/" + nines(60), "1/" + nines(60), "1/" + nines(60) + ";-1/" + nines(60)},
	} {
		r, ok := impl.FromPoly(poly(c.poly), listFrom(c.start))
		wantRecurrence(t, "from "+c.poly+" and "+c.start, r, ok, c.want)
		if ok {
			p, ok := impl.PolyOf(r)
			wantPoly(t, "polynomial of "+c.want, p, ok, c.poly)
		}
	}
	for _, bad := range [][]string{nil, {}, {"0"}, {"1", "0"}, {"1", "1", "0"}, {"x", "1"}, {"-0", "1"}, {"1", "x"}, copies("1", 14), copies("1", 10), copies("0", 5000)} {
		for count := range 10 {
			r, ok := impl.FromPoly(bad, copies("1", count))
			wantRecurrence(t, fmt.Sprintf("from %.40q", bad), r, ok, "")
		}
	}
	for _, bad := range []string{"1;none", "none;1", "x;1", "1;x", "1,2;1", "1;2/4", one + ",1;" + one + ",1"} {
		p, ok := impl.PolyOf(rec(bad))
		wantPoly(t, "polynomial of "+bad, p, ok, "")
		matrix, ok := impl.CompanionOf(rec(bad))
		wantMatrix(t, "companion of "+bad, matrix, ok, "")
		least, ok := impl.MinimalOf(rec(bad))
		wantRecurrence(t, "minimal one of "+bad, least, ok, "")
	}
	matrix, ok := impl.CompanionOf(rec("0;-5/7"))
	wantMatrix(t, "companion of the order 1", matrix, ok, "-5/7")
	matrix, ok = impl.CompanionOf(rec("1,2,3;0,4,0"))
	wantMatrix(t, "companion of the order 3", matrix, ok, "0,4,0|1,0,0|0,1,0")
}
