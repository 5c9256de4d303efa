package tests

import (
	"fmt"
	"math"
	"reflect"
	"slices"
	"strings"
	"testing"

	"loop.example/g01120/impl"
)

// Promise 1 for the functions of chapter 7.

// seriesArguments are those that a function of the chapter can take.
type seriesArguments struct {
	letters, length int64
	parts           []impl.Part
	text            string
	word            []int64
	a, b            impl.Automaton
	table           []string
	r               impl.Recurrence
}

// A seriesCall calls a function with those of the arguments that it takes; fits tells what it requires of them, but for what it finds out.
type seriesCall struct {
	name string
	fits func(a seriesArguments) bool
	run  func(a seriesArguments) []any
}

func isLength(length int64) bool { return length >= 0 && length <= wordLimit }

func seriesCalls() []seriesCall {
	two := func(x, y any) []any { return []any{x, y} }
	expression := func(a seriesArguments) bool { return isExpression(a.letters, a.parts) }
	one := func(a seriesArguments) bool { return isAutomaton(a.a) }
	both := func(a seriesArguments) bool {
		return isAutomaton(a.a) && isAutomaton(a.b) && len(a.a.Moves) == len(a.b.Moves)
	}
	word := func(a seriesArguments) bool {
		return expression(a) && isWordOf(impl.Automaton{Moves: make([][][]string, a.letters)}, a.word)
	}
	table := func(a seriesArguments) bool {
		return isLength(a.length) && a.length > 0 && a.letters >= 1 && a.letters <= letterLimit && len(a.table) <= tableLimit && len(a.table) == int(wordCount(a.letters, a.length)) && areAllNumbers(a.table)
	}
	return []seriesCall{
		{"ValidParts", expression, func(a seriesArguments) []any { return []any{impl.ValidParts(a.letters, a.parts)} }},
		{"ValueOfParts", word, func(a seriesArguments) []any { return two(impl.ValueOfParts(a.letters, a.parts, a.word)) }},
		{"AutomatonOfParts", expression, func(a seriesArguments) []any { return two(impl.AutomatonOfParts(a.letters, a.parts)) }},
		{"PartsText", expression, func(a seriesArguments) []any { return two(impl.PartsText(a.letters, a.parts)) }},
		{"ReadParts", func(a seriesArguments) bool { return a.letters >= 1 && a.letters <= letterLimit }, func(a seriesArguments) []any { return two(impl.ReadParts(a.letters, a.text)) }},
		{"ConcatAutomata", both, func(a seriesArguments) []any { return two(impl.ConcatAutomata(a.a, a.b)) }},
		{"StarAutomaton", one, func(a seriesArguments) []any { return two(impl.StarAutomaton(a.a)) }},
		{"HadamardAutomata", both, func(a seriesArguments) []any { return two(impl.HadamardAutomata(a.a, a.b)) }},
		{"TableOf", func(a seriesArguments) bool {
			return one(a) && isLength(a.length) && wordCount(int64(len(a.a.Moves)), a.length) <= tableLimit
		}, func(a seriesArguments) []any { return two(impl.TableOf(a.a, a.length)) }},
		{"LearnFrom", table, func(a seriesArguments) []any { return two(impl.LearnFrom(a.letters, a.length, a.table)) }},
		{"AutomatonOfRecurrence", func(a seriesArguments) bool { return isRecurrence(a.r) }, func(a seriesArguments) []any { return two(impl.AutomatonOfRecurrence(a.r)) }},
		{"RecurrenceOfAutomaton", func(a seriesArguments) bool { return one(a) && len(a.a.Moves) == 1 }, func(a seriesArguments) []any { return two(impl.RecurrenceOfAutomaton(a.a)) }},
		{"LevelRecurrence", one, func(a seriesArguments) []any { return two(impl.LevelRecurrence(a.a)) }},
	}
}

// wordCount is the number of words with at most some letters, which is great for long ones.
func wordCount(letters, length int64) int64 {
	count := int64(0)
	for range length + 1 {
		count = count*letters + 1
	}
	return count
}

// areAllNumbers says it of more numbers than a list of numbers has.
func areAllNumbers(list []string) bool {
	return !slices.ContainsFunc(list, func(s string) bool { return !isNumberText(s) })
}

func seriesCallsOf(names ...string) []seriesCall {
	return slices.DeleteFunc(seriesCalls(), func(call seriesCall) bool { return !slices.Contains(names, call.name) })
}

// spareItems returns a list with unused capacity, and a copy of all of its memory.
func spareItems[T any](items []T, more ...T) ([]T, []T) {
	all := append(slices.Clone(items), more...)
	return all[:len(items)], slices.Clone(all)
}

// checkSeriesCall calls a function twice with equal arguments, and once again after the memory of its first result was written over.
func checkSeriesCall(t *testing.T, call seriesCall, a seriesArguments, name string) {
	t.Helper()
	what := fmt.Sprintf("%s of %s, %d letters, the length %d", call.name, name, a.letters, a.length)
	first, second := keepAutomaton(a.a), keepAutomaton(a.b)
	kept, lists := a, keeper{}
	kept.a, kept.b, kept.r = first.kept, second.kept, impl.Recurrence{Start: lists.list(a.r.Start), Coeffs: lists.list(a.r.Coeffs)}
	kept.table = lists.list(a.table)
	list, before := spareItems(a.parts, impl.Part{Kind: 1}, impl.Part{Kind: 77, Number: "spare"})
	word, wordBefore := spareItems(a.word, 7, 0)
	kept.parts, kept.word = list, word
	got, again := call.run(kept), call.run(a)
	if !reflect.DeepEqual(fmt.Sprint(got), fmt.Sprint(again)) {
		t.Errorf("%s: %.500s, then %.500s", what, fmt.Sprint(got), fmt.Sprint(again))
	}
	if !call.fits(a) {
		wantFailure(t, what, got)
	} else if (call.name == "ValidParts" || call.name == "PartsText") && got[len(got)-1] != true {
		t.Errorf("%s: it fails", what)
	}
	wantZeroOnFailure(t, what, got)
	checkResults(t, what, got)
	if overwrite(got) || overwriteParts(got) {
		t.Errorf("%s: lists of the results share memory", what)
	}
	if third := call.run(kept); !reflect.DeepEqual(fmt.Sprint(again), fmt.Sprint(third)) {
		t.Errorf("%s: results of two calls share memory: %.500s, then %.500s", what, fmt.Sprint(again), fmt.Sprint(third))
	}
	first.wantUntouched(t, what)
	second.wantUntouched(t, what)
	lists.wantUntouched(t, what)
	if !slices.Equal(list[:len(before)], before) || !slices.Equal(word[:len(wordBefore)], wordBefore) {
		t.Errorf("%s: an argument was changed", what)
	}
}

// checkResults checks that automata and recurrences of results are valid.
func checkResults(t *testing.T, what string, got []any) {
	t.Helper()
	if got[len(got)-1] != true {
		return
	}
	switch x := got[0].(type) {
	case impl.Automaton:
		if !isAutomaton(x) {
			t.Errorf("%s: got %.500s", what, autText(x))
		}
	case impl.Recurrence:
		if !isRecurrence(x) {
			t.Errorf("%s: got %.500s", what, recText(x))
		}
	}
}

// overwriteParts writes over the memory of parts, and of recurrences, and reports whether two lists share it.
func overwriteParts(results []any) bool {
	for _, r := range results {
		switch x := r.(type) {
		case []impl.Part:
			fill(x, impl.Part{Kind: -9})
		case impl.Recurrence:
			return overwrite([]any{x.Start, x.Coeffs})
		}
	}
	return false
}

func hostileParts() [][]impl.Part {
	list := [][]impl.Part{nil, {}}
	for _, s := range []string{"0", "1", "a", "b", "c", "d", "* a", "* 1", "* * a", "* 0", "+ a", "+ a b", "+ a b c", ". a", ". a b", "a a", "!0 * 1", "!-1/2 a", "! a", "!x a", "!2/4 a", "!" + nines(60) + " * !" + nines(60) + " a", "!" + nines(61) + " a", "*1 a", "+1 a a", "a1", "x", "-0", "* + a b", "* + + 1 -1 . a b", ". . . . . a a a a a a", "+ + + + + a b a b a 1", "+ + + + + + a a a a a a a", "!2 !2 !2 !2 !2 !2 !2 !2 !2 !2 !2 a", "!2 !2 !2 !2 !2 !2 !2 !2 !2 !2 !2 !2 a", "* * * * * * * * * * * *", "+ + + + + + + + + + + +", "1/" + nines(60), ". 1/" + nines(60) + " 1/" + nines(60), "\xff"} {
		list = append(list, parts(s))
	}
	return append(list, []impl.Part{{Kind: -1}}, []impl.Part{{Kind: 6}}, []impl.Part{{Kind: math.MinInt64}}, []impl.Part{{Kind: math.MaxInt64, Letter: math.MinInt64}}, []impl.Part{{Kind: 1, Letter: -1}}, []impl.Part{{Kind: 1, Letter: math.MaxInt64}}, []impl.Part{{Kind: 1, Letter: math.MinInt64}}, []impl.Part{{}}, []impl.Part{{Number: "1", Letter: 1}}, []impl.Part{{Kind: 5, Letter: 1, Number: "1"}, {Kind: 1}}, []impl.Part{{Kind: 4, Letter: 1}, {Kind: 1}}, []impl.Part{{Kind: 2, Number: "0"}, {Kind: 1}, {Kind: 1}},
		make([]impl.Part, 5000), slices.Repeat(parts("*"), 5000), slices.Repeat(parts("+"), 5000), []impl.Part{{Number: strings.Repeat("9", 100000)}}, []impl.Part{{Kind: 5, Number: strings.Repeat("1", 100000)}, {Kind: 1}})
}

func TestExpressionFunctionsReturnForAllArguments(t *testing.T) {
	t.Parallel()
	letters := []int64{math.MinInt64, -1, 0, 1, 2, 3, 4, 1<<32 + 1, math.MaxInt64}
	for i, list := range hostileParts() {
		for k, n := range letters {
			for m, word := range hostileWords {
				a := seriesArguments{letters: n, parts: list, word: word}
				for _, call := range seriesCallsOf("ValidParts", "ValueOfParts", "AutomatonOfParts", "PartsText") {
					if m == 0 || call.name == "ValueOfParts" && k > 2 && k < 6 {
						checkSeriesCall(t, call, a, fmt.Sprintf("the parts %d and the word %.60s", i, fmt.Sprint(word)))
					}
				}
			}
		}
	}
}

func TestReadPartsReturnsForAllTexts(t *testing.T) {
	texts := []string{strings.Repeat("+ ", 1000000), strings.Repeat(" ", 1000000), strings.Repeat("9", 1000000), "!" + strings.Repeat("9", 1000000) + " a", strings.Repeat("* ", 11) + "a", strings.Repeat("* ", 12) + "a", strings.Repeat("a", 1000000), "\x00", "é", "* é", "!\xff a", "a\xff", "!", "! ", "!!", "+", "", " "}
	for _, list := range hostileParts() {
		if !slices.ContainsFunc(list, func(part impl.Part) bool { return part.Kind < 0 || part.Kind > 5 }) {
			texts = append(texts, partsText(list))
		}
	}
	for _, text := range texts {
		for _, letters := range []int64{math.MinInt64, -1, 0, 1, 3, 4, math.MaxInt64} {
			for _, call := range seriesCallsOf("ReadParts") {
				checkSeriesCall(t, call, seriesArguments{letters: letters, text: text}, fmt.Sprintf("%.100q", text))
			}
		}
	}
}

func TestAutomatonSeriesReturnForAllArguments(t *testing.T) {
	t.Parallel()
	lengths := []int64{math.MinInt64, -1, 0, 1, 2, 4, 5, 6, 7, 12, 13, 1<<32 + 1, math.MaxInt64}
	list := hostileAutomata()
	for i, a := range list {
		for k, length := range lengths {
			for _, call := range seriesCallsOf("StarAutomaton", "TableOf", "RecurrenceOfAutomaton", "LevelRecurrence") {
				if k == 0 || call.name == "TableOf" {
					checkSeriesCall(t, call, seriesArguments{a: a, length: length}, fmt.Sprint("the automaton ", i))
				}
			}
		}
	}
}

func TestProductsReturnForAllArguments(t *testing.T) {
	t.Parallel()
	list := hostileAutomata()
	for i, a := range list {
		for k, b := range list {
			for _, call := range seriesCallsOf("ConcatAutomata", "HadamardAutomata") {
				checkSeriesCall(t, call, seriesArguments{a: a, b: b}, fmt.Sprint("the automata ", i, " and ", k))
			}
		}
	}
}

func TestLearnFromReturnsForAllArguments(t *testing.T) {
	t.Parallel()
	tables := append(hostileTerms(), copies("1", 121), copies("0", 127), copies("1/3", 129), copies("0", 130), copies("1", 131), copies("1", 255), append(copies("1", 120), "2"), append(copies("1", 126), "x"), copies("-"+nines(60)+"/"+tenTo(59), 121), copies("2", 13), copies("2", 12), copies("2", 3), copies("2", 7), copies("2", 15))
	for i, table := range tables {
		for _, letters := range []int64{math.MinInt64, -1, 0, 1, 2, 3, 4, 1<<32 + 1, math.MaxInt64} {
			for _, length := range []int64{math.MinInt64, -1, 0, 1, 2, 3, 4, 5, 6, 7, 12, 13, 1<<32 + 1, math.MaxInt64} {
				for _, call := range seriesCallsOf("LearnFrom") {
					checkSeriesCall(t, call, seriesArguments{letters: letters, length: length, table: table}, fmt.Sprint("the table ", i))
				}
			}
		}
	}
}

func TestAutomatonOfRecurrenceReturnsForAllArguments(t *testing.T) {
	for i, r := range hostileRecurrences() {
		for _, call := range seriesCallsOf("AutomatonOfRecurrence") {
			checkSeriesCall(t, call, seriesArguments{r: r}, fmt.Sprint("the recurrence ", i))
		}
	}
}

// Arguments that share memory with each other are no reason to go wrong.
func TestSeriesWithSharedMemory(t *testing.T) {
	list, before := spare([]string{"0", "2"})
	move := [][]string{list, list}
	a := impl.Automaton{Start: list[:1], End: list[:1], Moves: [][][]string{{list[1:]}, {list[1:]}}}
	b := impl.Automaton{Start: list, End: list, Moves: [][][]string{move, move}}
	checkProducts(t, a, b)
	checkProducts(t, b, b)
	checkStar(t, a)
	checkLengths(t, b)
	checkTable(t, b, 6)
	checkOneLetter(t, impl.Recurrence{Start: list, Coeffs: list})
	for _, call := range seriesCalls() {
		arguments := seriesArguments{letters: 2, length: 1, parts: parts("* + a b"), text: "* + a b", word: []int64{0, 1}, a: b, b: b, table: append(list, "0")[:3], r: impl.Recurrence{Start: list, Coeffs: list}}
		if got := call.run(arguments); overwrite(got) || overwriteParts(got) {
			t.Errorf("%s: lists of the results share memory", call.name)
		}
		list[:3][2] = before[2]
	}
	wantUntouched(t, "all of them", list, before)
}
