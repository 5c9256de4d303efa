package tests

import (
	"math/big"
	"math/rand/v2"
	"slices"
	"strings"
	"testing"

	"loop.example/g01120/impl"
)

// What recurrences are, in another way than the program's: terms one by one, linear equations and elimination, all with fractions of math/big.

// These limits are written out, so that wrong constants of the program are found.
const (
	orderLimit = 8
	termLimit  = 40
	rowLimit   = 20
)

// listFrom reads a list that a test writes.
func listFrom(s string) []string {
	if s == "none" {
		return []string{}
	}
	return strings.Split(s, ",")
}

// rec reads a recurrence that a test writes.
func rec(s string) impl.Recurrence {
	start, coeffs, _ := strings.Cut(s, ";")
	return impl.Recurrence{Start: listFrom(start), Coeffs: listFrom(coeffs)}
}

func listText(list []string) string {
	if len(list) == 0 {
		return "none"
	}
	return strings.Join(list, ",")
}

func recText(r impl.Recurrence) string { return listText(r.Start) + ";" + listText(r.Coeffs) }

func areNumbers(list []string) bool {
	return !slices.ContainsFunc(list, func(s string) bool { return !isNumberText(s) })
}

// isRecurrence says what a valid recurrence is.
func isRecurrence(r impl.Recurrence) bool {
	return len(r.Start) == len(r.Coeffs) && len(r.Start) <= orderLimit && areNumbers(r.Start) && areNumbers(r.Coeffs)
}

// areTerms says what terms are.
func areTerms(list []string) bool { return len(list) <= termLimit && areNumbers(list) }

// isMatrix says for which matrices there is a rank.
func isMatrix(matrix [][]string) bool {
	if len(matrix) < 1 || len(matrix) > rowLimit || len(matrix[0]) < 1 || len(matrix[0]) > rowLimit {
		return false
	}
	return !slices.ContainsFunc(matrix, func(row []string) bool { return len(row) != len(matrix[0]) || !areNumbers(row) })
}

// termsOf are the first terms.
func termsOf(r impl.Recurrence, count int) rats {
	terms, coeffs := ratsOf(r.Start), ratsOf(r.Coeffs)
	for len(terms) < count {
		sum := new(big.Rat)
		for i, c := range coeffs {
			sum.Add(sum, new(big.Rat).Mul(c, terms[len(terms)-1-i]))
		}
		terms = append(terms, sum)
	}
	return terms[:count]
}

// numbersOf is the list of a result, and false if a number has too many digits.
func numbersOf(list rats) ([]string, bool) {
	texts := []string{}
	for _, x := range list {
		texts = append(texts, textOf(x))
	}
	if slices.Contains(texts, "") {
		return nil, false
	}
	return texts, true
}

// reduceRows reduces a matrix by its first columns, and returns how many rows have a pivot there; these come first.
func reduceRows(matrix []rats, columns int) int {
	rank := 0
	for column := range columns {
		at := slices.IndexFunc(matrix[rank:], func(row rats) bool { return row[column].Sign() != 0 })
		if at < 0 {
			continue
		}
		matrix[rank], matrix[rank+at] = matrix[rank+at], matrix[rank]
		pivot := matrix[rank]
		for i, row := range matrix {
			if i == rank || row[column].Sign() == 0 {
				continue
			}
			factor := new(big.Rat).Quo(row[column], pivot[column])
			for k := range row {
				row[k] = new(big.Rat).Sub(row[k], new(big.Rat).Mul(factor, pivot[k]))
			}
		}
		rank++
	}
	return rank
}

// rankOfTexts is the rank of a matrix.
func rankOfTexts(matrix [][]string) int {
	rows := []rats{}
	for _, row := range matrix {
		rows = append(rows, ratsOf(row))
	}
	return reduceRows(rows, len(rows[0]))
}

// solve returns the only solution of linear equations, whose right sides are the last columns. It returns false if there is none, and none of the tests may have more.
func solve(equations []rats, unknowns int) (rats, bool) {
	rank := reduceRows(equations, unknowns)
	for _, row := range equations[rank:] {
		if row[unknowns].Sign() != 0 {
			return nil, false
		}
	}
	if rank < unknowns {
		panic("more than one solution")
	}
	solution := rats{}
	for i, row := range equations[:rank] {
		solution = append(solution, new(big.Rat).Quo(row[unknowns], row[i]))
	}
	return solution, true
}

// shortest looks for coefficients with which all terms from an order on are right, for one order after another; there must be twice as many terms.
func shortest(terms rats) (rats, bool) {
	for order := 0; order <= min(orderLimit, len(terms)/2); order++ {
		equations := []rats{}
		for n := order; n < len(terms); n++ {
			row := rats{}
			for i := range order {
				row = append(row, terms[n-1-i])
			}
			equations = append(equations, append(row, terms[n]))
		}
		if coeffs, ok := solve(equations, order); ok {
			return coeffs, true
		}
	}
	return nil, false
}

// shortestText is the text of the shortest recurrence, and "" if there is none or it has too many digits.
func shortestText(terms []string) string {
	coeffs, found := shortest(ratsOf(terms))
	if !found {
		return ""
	}
	texts, fits := numbersOf(coeffs)
	if !fits {
		return ""
	}
	return listText(terms[:len(texts)]) + ";" + listText(texts)
}

// minimalText is the text of the shortest recurrence of twice as many terms as r has, which may be of any size.
func minimalText(r impl.Recurrence) string {
	coeffs, found := shortest(termsOf(r, 2*len(r.Start)))
	if !found {
		panic("the recurrence itself is found at last")
	}
	texts, fits := numbersOf(coeffs)
	if !fits {
		return ""
	}
	return listText(r.Start[:len(texts)]) + ";" + listText(texts)
}

// firstDifference looks at more terms than are needed; it returns -1 if all are the same.
func firstDifference(r, s impl.Recurrence) int {
	count := len(r.Start) + len(s.Start) + 2
	u, v := termsOf(r, count), termsOf(s, count)
	for n := range count {
		if u[n].Cmp(v[n]) != 0 {
			return n
		}
	}
	return -1
}

// hankelOf is a matrix of terms.
func hankelOf(terms []string, rows, columns int) [][]string {
	matrix := [][]string{}
	for i := range rows {
		matrix = append(matrix, slices.Clone(terms[i:i+columns]))
	}
	return matrix
}

// hankelRank is the rank of the matrix that has the last term as its last element.
func hankelRank(terms []string) int {
	rows := 0
	for 2*rows < len(terms) {
		rows++
	}
	return rankOfTexts(hankelOf(terms, rows, len(terms)-rows+1))
}

// longer returns a recurrence of the same sequence whose characteristic polynomial has one more factor. It returns false if that is 0, or it would be no recurrence.
func longer(r impl.Recurrence, factor []string) (impl.Recurrence, bool) {
	if len(factor) == 0 {
		return impl.Recurrence{}, false
	}
	characteristic := rats{}
	coeffs := ratsOf(r.Coeffs)
	for i := len(coeffs) - 1; i >= 0; i-- {
		characteristic = append(characteristic, new(big.Rat).Neg(coeffs[i]))
	}
	characteristic = append(characteristic, big.NewRat(1, 1)).times(ratsOf(factor).monic())
	order, list := len(characteristic)-1, rats{}
	for i := range order {
		list = append(list, new(big.Rat).Neg(characteristic[order-1-i]))
	}
	start, okStart := numbersOf(termsOf(r, order))
	texts, okCoeffs := numbersOf(list)
	return impl.Recurrence{Start: start, Coeffs: texts}, okStart && okCoeffs && order <= orderLimit
}

// parting returns recurrences with some coefficients whose sequences differ first where their orders together have their last term. It returns false if there are none.
func parting(first, second []string) (impl.Recurrence, impl.Recurrence, bool) {
	count := len(first) + len(second)
	equations := make([]rats, count)
	for i := range count {
		unit := func(order, at int) []string {
			list := copies("0", order)
			if at >= 0 && at < order {
				list[at] = "1"
			}
			return list
		}
		u := termsOf(impl.Recurrence{Start: unit(len(first), i), Coeffs: first}, count)
		v := termsOf(impl.Recurrence{Start: unit(len(second), i-len(first)), Coeffs: second}, count)
		for n := range count {
			equations[n] = append(equations[n], new(big.Rat).Sub(u[n], v[n]))
		}
	}
	for n := range count {
		equations[n] = append(equations[n], big.NewRat(int64((n+1)/count), 1))
	}
	if reduceRows(slices.Clone(equations), count) < count {
		return impl.Recurrence{}, impl.Recurrence{}, false
	}
	starts, _ := solve(equations, count)
	texts, fits := numbersOf(starts)
	if !fits {
		return impl.Recurrence{}, impl.Recurrence{}, false
	}
	return impl.Recurrence{Start: texts[:len(first)], Coeffs: first}, impl.Recurrence{Start: texts[len(first):], Coeffs: second}, true
}

// wantRecurrence checks a result that is a recurrence; the wanted text "" means that the function fails.
func wantRecurrence(t *testing.T, what string, got impl.Recurrence, ok bool, want string) {
	t.Helper()
	if want == "" {
		if ok || len(got.Start) != 0 || len(got.Coeffs) != 0 {
			t.Errorf("%s: got %s, %v, want a failure", what, recText(got), ok)
		}
		return
	}
	if !ok || !isRecurrence(got) || recText(got) != want {
		t.Errorf("%s: got %s, %v, want %s", what, recText(got), ok, want)
	}
}

// wantList checks a result that is a list; the wanted text "" means that the function fails.
func wantList(t *testing.T, what string, got []string, ok bool, want string) {
	t.Helper()
	if want == "" {
		if ok || len(got) != 0 {
			t.Errorf("%s: got %q, %v, want a failure", what, got, ok)
		}
		return
	}
	if !ok || listText(got) != want {
		t.Errorf("%s: got %q, %v, want %s", what, got, ok, want)
	}
}

// wantMatrix checks a result that is a matrix, whose rows the wanted text has with | between them; "" means that the function fails.
func wantMatrix(t *testing.T, what string, got [][]string, ok bool, want string) {
	t.Helper()
	rows := []string{}
	for _, row := range got {
		rows = append(rows, strings.Join(row, ","))
	}
	if text := strings.Join(rows, "|"); ok != (want != "") || text != want || !ok && len(got) != 0 {
		t.Errorf("%s: got %s, %v, want %s", what, text, ok, want)
	}
}

// smallRecurrence has small numbers, of which many are 0.
func smallRecurrence(random *rand.Rand, order int) impl.Recurrence {
	list := func() []string {
		texts := []string{}
		for range order {
			x := big.NewRat(int64(random.IntN(9)-4), int64(1+random.IntN(3)*random.IntN(2)))
			if random.IntN(3) == 0 {
				x.SetInt64(0)
			}
			texts = append(texts, x.RatString())
		}
		return texts
	}
	return impl.Recurrence{Start: list(), Coeffs: list()}
}

// greatRecurrence has numbers with many digits.
func greatRecurrence(random *rand.Rand, order int) impl.Recurrence {
	r := impl.Recurrence{}
	for range order {
		r.Start, r.Coeffs = append(r.Start, randomNumber(random)), append(r.Coeffs, randomNumber(random))
	}
	return r
}

// tinyLists calls visit with all lists of some items that have at most length elements.
func tinyLists(items []string, length int, visit func(list []string)) {
	var extend func(list []string)
	extend = func(list []string) {
		visit(slices.Clone(list))
		if len(list) == length {
			return
		}
		for _, item := range items {
			extend(append(slices.Clone(list), item))
		}
	}
	extend([]string{})
}

// tinyRecurrences returns all recurrences of orders up to a limit with some items.
func tinyRecurrences(items []string, limit int) []impl.Recurrence {
	all := []impl.Recurrence{}
	tinyLists(items, limit, func(start []string) {
		tinyLists(items, limit, func(coeffs []string) {
			if len(start) == len(coeffs) {
				all = append(all, impl.Recurrence{Start: start, Coeffs: coeffs})
			}
		})
	})
	return all
}
