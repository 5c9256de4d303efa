package tests

import (
	"fmt"
	"math"
	"reflect"
	"slices"
	"strings"
	"testing"

	"loop.example/g01120/impl"
)

// Promise 1 for the functions of chapter 3.

// recArguments are those that a function of the chapter can take.
type recArguments struct {
	r, s   impl.Recurrence
	list   []string
	matrix [][]string
	n, m   int64
}

// A recCall calls a function with those of the arguments that it takes; fits tells what it requires of them, but for numbers.
type recCall struct {
	name string
	fits func(a recArguments) bool
	run  func(a recArguments) []any
}

func recCalls() []recCall {
	two := func(x, y any) []any { return []any{x, y} }
	one := func(a recArguments) bool { return isRecurrence(a.r) }
	both := func(a recArguments) bool { return isRecurrence(a.r) && isRecurrence(a.s) }
	terms := func(a recArguments) bool { return areTerms(a.list) }
	return []recCall{
		{"ValidRecurrence", one, func(a recArguments) []any { return []any{impl.ValidRecurrence(a.r)} }},
		{"TermsOf", one, func(a recArguments) []any { return two(impl.TermsOf(a.r, a.n)) }},
		{"IsRecurrenceOf", func(a recArguments) bool { return one(a) && terms(a) }, func(a recArguments) []any { return []any{impl.IsRecurrenceOf(a.r, a.list)} }},
		{"ShortestOf", terms, func(a recArguments) []any { return two(impl.ShortestOf(a.list)) }},
		{"HankelOf", terms, func(a recArguments) []any { return two(impl.HankelOf(a.list, a.n, a.m)) }},
		{"HankelRank", terms, func(a recArguments) []any { return two(impl.HankelRank(a.list)) }},
		{"RankOf", func(a recArguments) bool { return isMatrix(a.matrix) }, func(a recArguments) []any { return two(impl.RankOf(a.matrix)) }},
		{"MinimalOf", one, func(a recArguments) []any { return two(impl.MinimalOf(a.r)) }},
		{"IsSameSequence", both, func(a recArguments) []any { return []any{impl.IsSameSequence(a.r, a.s)} }},
		{"FirstDifference", both, func(a recArguments) []any { return two(impl.FirstDifference(a.r, a.s)) }},
		{"PolyOf", one, func(a recArguments) []any { return two(impl.PolyOf(a.r)) }},
		{"FromPoly", func(a recArguments) bool { return isPolyList(a.list) && len(a.list) == len(a.r.Start)+1 }, func(a recArguments) []any { return two(impl.FromPoly(a.list, a.r.Start)) }},
		{"CompanionOf", one, func(a recArguments) []any { return two(impl.CompanionOf(a.r)) }},
		{"RecurrenceText", one, func(a recArguments) []any { return two(impl.RecurrenceText(a.r)) }},
		{"ReadRecurrence", func(a recArguments) bool { return isRecurrenceText(recText(a.r)) }, func(a recArguments) []any { return two(impl.ReadRecurrence(recText(a.r))) }},
	}
}

func hostileRecurrences() []impl.Recurrence {
	list := []impl.Recurrence{}
	for _, s := range []string{"none;none", "0;0", "1;2", "5;0", "0,1;1,1", "1,2;3,-2", "1,2,3;0,0,1/2", "1;none", "none;1", "1,2;1", "1;1,2", "x;1", "1;x", ";", "2/4;1", "1;-0", "1;1/0", "none,1;1,1", nines(60) + ";" + nines(60), "1/" + nines(60) + ";-1/" + nines(60), nines(61) + ";1", "\xff;1", "1,2,3,4,5,6,7,8;8,7,6,5,4,3,2,1", "1,2,3,4,5,6,7,8,9;1,2,3,4,5,6,7,8,9"} {
		list = append(list, rec(s))
	}
	great, most := copies(nines(60)+"/"+tenTo(59), 8), []string{}
	for i := range 8 {
		most = append(most, nines(52+i)+"7/"+tenTo(51+i))
	}
	return append(list, impl.Recurrence{}, impl.Recurrence{Start: great, Coeffs: great}, impl.Recurrence{Start: most, Coeffs: great}, impl.Recurrence{Start: great, Coeffs: most},
		impl.Recurrence{Start: copies("1", 5000), Coeffs: copies("1", 5000)}, impl.Recurrence{Start: copies("0", 60)}, impl.Recurrence{Start: []string{strings.Repeat("9", 1000000)}, Coeffs: []string{"1"}})
}

func hostileTerms() [][]string {
	return [][]string{
		nil, {}, {"0"}, {"1"}, {"-1/2", "1"}, {"1", "1"}, {"1", "2", "4", "8"}, {"0", "1", "1", "2"}, {"0", "0", "0", "1"}, {"1", "2", "3"}, {"5", "0"}, {"-1", "-1", "1"}, {""}, {"1", ""}, {"x"}, {"2/4", "1"}, {"1", "-0"}, {"1", "1/0"}, {"\xff", "1"}, {"none"},
		copies("1", 40), copies("0", 40), copies("1", 41), copies("0", 41), copies("1", 5000), append(copies("0", 39), "1"), append(copies("1", 39), "x"), copies("1/7", 9), {nines(60), "-" + nines(60)}, {nines(61), "1"}, {strings.Repeat("9", 1000000)}, copies(nines(60)+"/"+tenTo(59), 40),
		{"1/" + nines(60), nines(60) + "/" + tenTo(59)}, {"1/2", "1/3", "1/5", "1/7", "1/11", "1/13", "1/17", "1/19", "1/23", "1/29", "1/31", "1/37", "1/41"},
	}
}

func hostileMatrices() [][][]string {
	square := [][]string{}
	for i := range 20 {
		row := []string{}
		for k := range 20 {
			row = append(row, impl.NumberOf(int64(i*k%7)))
		}
		square = append(square, row)
	}
	return [][][]string{
		nil, {}, {{}}, {nil}, {{}, {}}, {{"0"}}, {{"1"}}, {{"0", "1"}, {"1", "0"}}, {{"0", "0"}, {"0", "1"}, {"2", "0"}}, {{"1", "2"}, {"2", "4"}}, {{"1"}, {"1", "2"}}, {{"1", "2"}, {"1"}}, {{"1"}, {}}, {{"x"}}, {{"1", "2/4"}}, {{nines(60), "1/" + nines(60)}, {"-1", nines(60)}}, {{nines(61)}},
		square, square[:19], append(slices.Clone(square), square[0]), {copies("1", 20)}, {copies("1", 21)}, slices.Repeat([][]string{{"1"}}, 5000), {copies("1", 60)}, {copies("1", 5000)}, {{strings.Repeat("9", 1000000)}},
	}
}

// A keeper makes arguments with unused capacity, and knows what they were.
type keeper struct {
	lists, before [][]string
	rows          [][]string
	firsts        []*string
}

func (k *keeper) list(items []string) []string {
	list, before := spare(items)
	k.lists, k.before = append(k.lists, list), append(k.before, before)
	return list
}

func (k *keeper) arguments(a recArguments) recArguments {
	a.r = impl.Recurrence{Start: k.list(a.r.Start), Coeffs: k.list(a.r.Coeffs)}
	a.s = impl.Recurrence{Start: k.list(a.s.Start), Coeffs: k.list(a.s.Coeffs)}
	a.list = k.list(a.list)
	rows := [][]string{}
	for _, row := range a.matrix {
		rows = append(rows, k.list(row))
	}
	rows = append(rows, k.list([]string{"spare"}), k.list([]string{"row"}))
	for _, row := range rows {
		k.firsts = append(k.firsts, &row[:1][0])
	}
	k.rows = rows
	a.matrix = rows[:len(a.matrix)]
	return a
}

// wantUntouched checks all arguments, with their unused capacity, and the order of rows.
func (k *keeper) wantUntouched(t *testing.T, what string) {
	t.Helper()
	for i, list := range k.lists {
		wantUntouched(t, what, list, k.before[i])
	}
	for i, row := range k.rows {
		if &row[:1][0] != k.firsts[i] {
			t.Errorf("%s: the row %d of the argument was exchanged", what, i)
		}
	}
}

// listsIn are all lists in results.
func listsIn(results []any) [][]string {
	lists := [][]string{}
	for _, r := range results {
		switch x := r.(type) {
		case []string:
			lists = append(lists, x)
		case [][]string:
			lists = append(lists, x...)
		case impl.Recurrence:
			lists = append(lists, x.Start, x.Coeffs)
		}
	}
	return lists
}

// wantListsOfTheirOwn writes over all memory of each list in results, each time another text: if two of them share memory, the first one is changed afterwards.
func wantListsOfTheirOwn(t *testing.T, what string, results []any) {
	t.Helper()
	lists := listsIn(results)
	for i, list := range lists {
		for k := range list[:cap(list)] {
			list[:cap(list)][k] = fmt.Sprint("written ", i)
		}
	}
	for i, list := range lists {
		if text := fmt.Sprint("written ", i); slices.ContainsFunc(list[:cap(list)], func(s string) bool { return s != text }) {
			t.Errorf("%s: lists of the results share memory", what)
		}
	}
}

// checkCall calls a function twice with equal arguments, which have a name.
func checkCall(t *testing.T, call recCall, a recArguments, name string) {
	t.Helper()
	what := fmt.Sprintf("%s of %s, %d and %d", call.name, name, a.n, a.m)
	keep, again := keeper{}, keeper{}
	first, second := call.run(keep.arguments(a)), call.run(again.arguments(a))
	if !reflect.DeepEqual(first, second) {
		t.Errorf("%s: %v, then %v", what, first, second)
	}
	if !call.fits(a) {
		wantFailure(t, what, first)
	}
	wantZeroOnFailure(t, what, first)
	for _, list := range listsIn(first) {
		if !areNumbers(list) {
			t.Errorf("%s: %q are no numbers", what, list)
		}
	}
	wantListsOfTheirOwn(t, what, first)
	keep.wantUntouched(t, what)
	for _, list := range listsIn(second) {
		if slices.ContainsFunc(list, func(s string) bool { return strings.HasPrefix(s, "written") }) {
			t.Errorf("%s: results of two calls share memory", what)
		}
	}
}

func TestRecurrenceFunctionsReturnForAllArguments(t *testing.T) {
	t.Parallel()
	numbers := []int64{math.MinInt64, math.MinInt64 + 1, -1, 0, 1, 2, 3, 8, 19, 20, 21, 39, 40, 41, math.MaxInt64 - 1, math.MaxInt64}
	recurrences, lists, matrices := hostileRecurrences(), hostileTerms(), hostileMatrices()
	for i, r := range recurrences {
		for k, s := range recurrences {
			a := recArguments{r: r, s: s, list: lists[(i+k)%len(lists)], matrix: matrices[(3*i+k)%len(matrices)], n: numbers[k%len(numbers)], m: numbers[(i+3*k)%len(numbers)]}
			for _, call := range recCalls() {
				checkCall(t, call, a, fmt.Sprint("the recurrences ", i, " and ", k))
			}
		}
	}
}

// recCallOf returns the call of a function.
func recCallOf(name string) recCall {
	calls := recCalls()
	return calls[slices.IndexFunc(calls, func(call recCall) bool { return call.name == name })]
}

func TestHankelOfReturnsForAllArguments(t *testing.T) {
	numbers := []int64{math.MinInt64, -1, 0, 1, 2, 20, 21, 40, math.MaxInt64}
	for i, list := range hostileTerms() {
		for _, n := range numbers {
			for _, m := range numbers {
				checkCall(t, recCallOf("HankelOf"), recArguments{list: list, n: n, m: m}, fmt.Sprint("the list ", i))
			}
		}
	}
}

func TestFromPolyReturnsForAllArguments(t *testing.T) {
	for i, p := range append(hostileLists(), hostileTerms()...) {
		for k, r := range hostileRecurrences() {
			checkCall(t, recCallOf("FromPoly"), recArguments{r: r, list: p}, fmt.Sprint("the list ", i, " and the recurrence ", k))
		}
	}
}

// Arguments that share memory with each other are no reason to go wrong.
func TestRecurrencesWithThemselves(t *testing.T) {
	list, before := spare([]string{"1", "1"})
	r := impl.Recurrence{Start: list, Coeffs: list}
	checkDifference(t, r, r, -1)
	least, ok := impl.MinimalOf(r)
	wantRecurrence(t, "minimal one", least, ok, "1,1;1,1")
	if impl.IsRecurrenceOf(r, list) != true {
		t.Error("they are its first terms")
	}
	rank, ok := impl.RankOf([][]string{list, list, list})
	wantInt(t, "rank of a row three times", rank, ok, 1, true)
	from, ok := impl.FromPoly(list, list[:1])
	wantRecurrence(t, "from x+1", from, ok, "1;-1")
	wantUntouched(t, "all of them", list, before)
}
