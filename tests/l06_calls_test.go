package tests

import (
	"fmt"
	"math"
	"math/rand/v2"
	"reflect"
	"slices"
	"strings"
	"testing"

	"loop.example/g01120/impl"
)

// Promise 1 for the functions of chapter 6.

// automatonArguments are those that a function of the chapter can take.
type automatonArguments struct {
	a, b impl.Automaton
	word []int64
	by   string
	n    int64
}

// An automatonCall calls a function with those of the arguments that it takes; fits tells what it requires of them.
type automatonCall struct {
	name string
	fits func(a automatonArguments) bool
	run  func(a automatonArguments) []any
}

func automatonCalls() []automatonCall {
	two := func(x, y any) []any { return []any{x, y} }
	one := func(a automatonArguments) bool { return isAutomaton(a.a) }
	both := func(a automatonArguments) bool {
		return isAutomaton(a.a) && isAutomaton(a.b) && len(a.a.Moves) == len(a.b.Moves)
	}
	word := func(a automatonArguments) bool { return isAutomaton(a.a) && isWordOf(a.a, a.word) }
	return []automatonCall{
		{"ValidAutomaton", one, func(a automatonArguments) []any { return []any{impl.ValidAutomaton(a.a)} }},
		{"ValueOf", word, func(a automatonArguments) []any { return two(impl.ValueOf(a.a, a.word)) }},
		{"LevelSums", func(a automatonArguments) bool { return one(a) && a.n >= 0 && a.n <= levelLimit }, func(a automatonArguments) []any { return two(impl.LevelSums(a.a, a.n)) }},
		{"FirstNonzero", one, func(a automatonArguments) []any { return two(impl.FirstNonzero(a.a)) }},
		{"RankOfSeries", one, func(a automatonArguments) []any { return two(impl.RankOfSeries(a.a)) }},
		{"RowWords", one, func(a automatonArguments) []any { return two(impl.RowWords(a.a)) }},
		{"ReduceAutomaton", one, func(a automatonArguments) []any { return two(impl.ReduceAutomaton(a.a)) }},
		{"SameSeries", both, func(a automatonArguments) []any { return two(impl.SameSeries(a.a, a.b)) }},
		{"TellingWord", both, func(a automatonArguments) []any { return two(impl.TellingWord(a.a, a.b)) }},
		{"AddAutomata", func(a automatonArguments) bool { return both(a) && len(a.a.Start)+len(a.b.Start) <= stateLimit }, func(a automatonArguments) []any { return two(impl.AddAutomata(a.a, a.b)) }},
		{"ScaleAutomaton", func(a automatonArguments) bool { return one(a) && isNumberText(a.by) }, func(a automatonArguments) []any { return two(impl.ScaleAutomaton(a.a, a.by)) }},
		{"ReverseAutomaton", one, func(a automatonArguments) []any { return two(impl.ReverseAutomaton(a.a)) }},
		{"BehindWord", word, func(a automatonArguments) []any { return two(impl.BehindWord(a.a, a.word)) }},
		{"AutomatonText", one, func(a automatonArguments) []any { return two(impl.AutomatonText(a.a)) }},
		{"ReadAutomaton", func(a automatonArguments) bool { return isAutomaton(aut(autText(a.a))) }, func(a automatonArguments) []any { return two(impl.ReadAutomaton(autText(a.a))) }},
	}
}

// never are the functions that fail for no arguments that are as required.
var neverFail = []string{"ValidAutomaton", "RankOfSeries", "RowWords", "AddAutomata", "ReverseAutomaton", "AutomatonText", "ReadAutomaton"}

func hostileAutomata() []impl.Automaton {
	list := []impl.Automaton{}
	for _, s := range []string{";;", ";;;;", ";;;;;", "1;1;1", "0;1;1;1", "1;0;1;1;1", "1;1;1;1;1;1", "1,0;0,1;1,1|0,1;1,0|0,1", "1,2;3,4;5,6|7,8", "1,1;1,-1;1,0|0,1", "1,2;3;1,2|3,4", "1;2,3;1", "1,2;3,4;1,2", "1,2;3,4;1,2|3,4|5,6", "1,2;3,4;1,2|3", "1,2;3,4;1,2|3,4,5", "1,2;3,4;1,2|3,x", "1;1;2/4", "x;1;1", "1;-0;1", "1;1", "", ";", "\xff;1;1", nines(60) + ";" + nines(60) + ";" + nines(60), "1;1;" + nines(61), "1,0,0;0,0,1;0,1,0|0,0,1|0,0,0;0,0,0|0,0,0|0,0,0"} {
		list = append(list, aut(s))
	}
	random := rand.New(rand.NewPCG(63, 1))
	great := func() string { return randomNumber(random) }
	most := func() string { return "-" + nines(60) + "/" + tenTo(59) }
	full := smallAutomaton(random, 6, 3)
	zero := randomAutomaton(6, 3, great)
	copy(zero.End, copies("0", 6))
	list = append(list, full, smallAutomaton(random, 7, 3), smallAutomaton(random, 6, 4), randomAutomaton(4, 2, great), randomAutomaton(6, 3, most), zero, chain(3, []int64{2, 1, 0, 2, 2}))
	late := smallAutomaton(random, 6, 3)
	late.Moves[2][5][5] = "1/0"
	longer, shorter := smallAutomaton(random, 6, 3), smallAutomaton(random, 6, 3)
	longer.Moves[2][5] = append(longer.Moves[2][5], "1")
	shorter.Moves[2] = shorter.Moves[2][:5]
	return append(list, late, longer, shorter, impl.Automaton{}, impl.Automaton{Moves: make([][][]string, 3)}, impl.Automaton{Moves: make([][][]string, 300)}, impl.Automaton{Start: []string{}, End: nil, Moves: [][][]string{nil, {}}},
		impl.Automaton{Start: copies("1", 300), End: copies("1", 300), Moves: [][][]string{slices.Repeat([][]string{copies("1", 5)}, 300)}}, impl.Automaton{Start: []string{strings.Repeat("9", 100000)}, End: []string{"1"}, Moves: [][][]string{{{"1"}}}},
		impl.Automaton{Start: []string{"1"}, End: []string{"1"}, Moves: [][][]string{{{}}}}, impl.Automaton{Start: []string{"1"}, End: []string{"1"}, Moves: [][][]string{{}}}, impl.Automaton{Moves: [][][]string{{{}}}})
}

var hostileWords = [][]int64{nil, {}, {0}, {1}, {2}, {3}, {-1}, {0, 1, 2, 0}, {math.MinInt64}, {math.MaxInt64}, {0, 0, 1 << 32}, make([]int64, 12), make([]int64, 13), make([]int64, 5000), {0, 1, 0, 1, 0, 1, 0, 1, 0, 1, 0, 1}, {0, -1, 0}}

// A keptAutomaton has unused capacity everywhere, and knows what it was.
type keptAutomaton struct {
	kept, before impl.Automaton
	lists        keeper
	firsts       []any
}

// spareRows returns rows with unused capacity behind them, and remembers where each of them begins.
func spareRows[T any](k *keptAutomaton, rows [][]T, more ...[]T) [][]T {
	all := append(slices.Clone(rows), more...)
	for _, row := range all {
		if cap(row) > 0 {
			k.firsts = append(k.firsts, &row[:1][0])
		}
	}
	return all[:len(rows)]
}

func keepAutomaton(a impl.Automaton) *keptAutomaton {
	k := &keptAutomaton{before: a}
	k.kept = impl.Automaton{Start: k.lists.list(a.Start), End: k.lists.list(a.End)}
	for _, move := range a.Moves {
		rows := [][]string{}
		for _, row := range move {
			rows = append(rows, k.lists.list(row))
		}
		k.kept.Moves = append(k.kept.Moves, spareRows(k, rows, k.lists.list([]string{"spare"}), k.lists.list([]string{"row"})))
	}
	k.kept.Moves = spareRows(k, k.kept.Moves, [][]string{{"spare"}}, [][]string{{"move"}})
	return k
}

func (k *keptAutomaton) wantUntouched(t *testing.T, what string) {
	t.Helper()
	k.lists.wantUntouched(t, what)
	firsts := []any{}
	again := &keptAutomaton{}
	for _, move := range k.kept.Moves {
		spareRows(again, move[:len(move)+2])
	}
	spareRows(again, k.kept.Moves[:len(k.kept.Moves)+2])
	firsts = again.firsts
	if autText(k.kept) != autText(k.before) || !slices.Equal(firsts, k.firsts) {
		t.Errorf("%s: an argument was changed", what)
	}
}

// overwrite writes over all memory of the slices in a result, each time something else, and reports whether two of them share memory.
func overwrite(results []any) bool {
	lists, words := [][]string{}, [][]int64{}
	for _, r := range results {
		switch x := r.(type) {
		case []string:
			lists = append(lists, x)
		case []int64:
			words = append(words, x)
		case [][]int64:
			words = append(words, x...)
		case impl.Automaton:
			lists = append(lists, x.Start, x.End)
			for _, move := range x.Moves {
				lists = append(lists, move...)
			}
		}
	}
	for i, list := range lists {
		fill(list, fmt.Sprint("written ", i))
	}
	for i, word := range words {
		fill(word, int64(-7-i))
	}
	shared := false
	for i, list := range lists {
		shared = shared || !isFilled(list, fmt.Sprint("written ", i))
	}
	for i, word := range words {
		shared = shared || !isFilled(word, int64(-7-i))
	}
	return shared
}

func fill[T any](list []T, x T) {
	for i := range list[:cap(list)] {
		list[:cap(list)][i] = x
	}
}

func isFilled[T comparable](list []T, x T) bool {
	return !slices.ContainsFunc(list[:cap(list)], func(y T) bool { return y != x })
}

// checkAutomatonCall calls a function twice with equal arguments, and once again after the memory of its first result was written over.
func checkAutomatonCall(t *testing.T, call automatonCall, a automatonArguments, name string) {
	t.Helper()
	what := fmt.Sprintf("%s of %s, the word %.60s, %.70q and %d", call.name, name, fmt.Sprint(a.word), a.by, a.n)
	first, second := keepAutomaton(a.a), keepAutomaton(a.b)
	word := append(slices.Clone(a.word), 7, 8)
	kept := automatonArguments{a: first.kept, b: second.kept, word: word[:len(a.word)], by: a.by, n: a.n}
	got, again := call.run(kept), call.run(a)
	if !reflect.DeepEqual(fmt.Sprint(got), fmt.Sprint(again)) {
		t.Errorf("%s: %.500s, then %.500s", what, fmt.Sprint(got), fmt.Sprint(again))
	}
	if !call.fits(a) {
		wantFailure(t, what, got)
	} else if slices.Contains(neverFail, call.name) && got[len(got)-1] != true {
		t.Errorf("%s: it fails", what)
	}
	wantZeroOnFailure(t, what, got)
	for _, r := range got {
		x, isA := r.(impl.Automaton)
		if isA && got[len(got)-1] == true && !isAutomaton(x) {
			t.Errorf("%s: got %.500s", what, autText(x))
		}
	}
	if overwrite(got) {
		t.Errorf("%s: lists of the results share memory", what)
	}
	if third := call.run(kept); !reflect.DeepEqual(fmt.Sprint(again), fmt.Sprint(third)) {
		t.Errorf("%s: results of two calls share memory: %.500s, then %.500s", what, fmt.Sprint(again), fmt.Sprint(third))
	}
	first.wantUntouched(t, what)
	second.wantUntouched(t, what)
	if !slices.Equal(word, append(slices.Clone(a.word), 7, 8)) {
		t.Errorf("%s: the word was changed", what)
	}
}

func TestAutomatonFunctionsReturnForAllArguments(t *testing.T) {
	t.Parallel()
	numbers := []string{"0", "1", "-1/2", "", "x", "2/4", "-0", nines(60), nines(61), "\xff", "1/0"}
	counts := []int64{math.MinInt64, -1, 0, 1, 2, 19, 20, 21, math.MaxInt64}
	for i, a := range hostileAutomata() {
		for k, word := range hostileWords {
			arguments := automatonArguments{a: a, word: word, by: numbers[(i+k)%len(numbers)], n: counts[(i+k)%len(counts)]}
			for _, call := range automatonCalls() {
				one := call.name != "SameSeries" && call.name != "TellingWord" && call.name != "AddAutomata"
				onWord := call.name == "ValueOf" || call.name == "BehindWord"
				if onWord || one && k < len(numbers) && (k < len(counts) && call.name == "LevelSums" || call.name == "ScaleAutomaton" || k == 0) {
					checkAutomatonCall(t, call, arguments, fmt.Sprint("the automaton ", i))
				}
			}
		}
	}
}

func TestFunctionsOfTwoAutomataReturnForAllArguments(t *testing.T) {
	t.Parallel()
	list := hostileAutomata()
	for i, a := range list {
		for k, b := range list {
			for _, call := range automatonCalls() {
				if call.name == "SameSeries" || call.name == "TellingWord" || call.name == "AddAutomata" {
					checkAutomatonCall(t, call, automatonArguments{a: a, b: b}, fmt.Sprint("the automata ", i, " and ", k))
				}
			}
		}
	}
}

func TestReadAutomatonReturnsForAllTexts(t *testing.T) {
	for _, s := range []string{strings.Repeat(";", 1000000), strings.Repeat("1,", 1000000) + "1;1;1", "1;1;" + strings.Repeat("1|", 1000000), strings.Repeat("9", 1000000) + ";1;1", strings.Repeat("\x00", 100), "1;1;1\x00", "é;1;1", strings.Repeat(",", 100000), ";;" + strings.Repeat("|", 100000)} {
		got, ok := impl.ReadAutomaton(s)
		wantAutomaton(t, fmt.Sprintf("ReadAutomaton of %.50q", s), got, ok, "")
	}
}

// Arguments that share memory with each other are no reason to go wrong.
func TestAutomataWithSharedMemory(t *testing.T) {
	list, before := spare([]string{"1", "2"})
	move := [][]string{list, list}
	a := impl.Automaton{Start: list, End: list, Moves: [][][]string{move, move}}
	other := aut("1,2;1,2;1,2|1,2;1,2|1,2")
	checkValues(t, a, [][]int64{{}, {0, 1}})
	checkLevels(t, a, 5)
	checkRows(t, a)
	checkTelling(t, a, other)
	checkTelling(t, a, a)
	checkOperations(t, a, a, "2")
	for _, call := range automatonCalls() {
		arguments := automatonArguments{a: a, b: a, word: []int64{0, 1}, by: "2", n: 3}
		if overwrite(call.run(arguments)) {
			t.Errorf("%s: lists of the results share memory", call.name)
		}
	}
	wantUntouched(t, "all of them", list, before)
}
