package tests

import (
	"fmt"
	"math/big"
	"math/rand/v2"
	"slices"
	"strings"
	"testing"

	"loop.example/g01120/impl"
)

// Promise 8: ordinary series.

func TestSeriesLimits(t *testing.T) {
	got := []int64{impl.MaxParts, impl.MaxTable, impl.PartNumber, impl.PartLetter, impl.PartSum, impl.PartProduct, impl.PartStar, impl.PartScale}
	if want := []int64{12, 130, 0, 1, 2, 3, 4, 5}; !slices.Equal(got, want) {
		t.Errorf("got %v, want %v", got, want)
	}
}

func TestExamplesOfSeries(t *testing.T) {
	all, ok := impl.ReadParts(2, "* + a b")
	if want := []impl.Part{{Kind: 4}, {Kind: 2}, {Kind: 1}, {Kind: 1, Letter: 1}}; !ok || !slices.Equal(all, want) {
		t.Errorf("ReadParts: got %v, %v, want %v", all, ok, want)
	}
	pair, ok := impl.ReadParts(2, ". a b")
	if !ok {
		t.Error("ReadParts fails")
	}
	for _, word := range wordsUpTo(2, 7) {
		value, ok := impl.ValueOfParts(2, all, word)
		wantText(t, fmt.Sprint("value of ", word), value, ok, "1")
		value, ok = impl.ValueOfParts(2, pair, word)
		want := "0"
		if slices.Equal(word, []int64{0, 1}) {
			want = "1"
		}
		wantText(t, fmt.Sprint("value of ", word), value, ok, want)
	}
	twice, _ := impl.ReadParts(1, "* !2 a")
	a, ok := impl.AutomatonOfParts(1, twice)
	wantAutomaton(t, "AutomatonOfParts", a, ok, "1;1;2")
	r, ok := impl.RecurrenceOfAutomaton(a)
	wantRecurrence(t, "RecurrenceOfAutomaton", r, ok, "1;2")
	text, ok := impl.PartsText(1, twice)
	wantText(t, "PartsText", text, ok, "* !2 a")
	for length := range 13 {
		value, ok := impl.ValueOfParts(1, twice, make([]int64, length))
		wantText(t, "a power of 2", value, ok, fmt.Sprint(1<<length))
	}
}

func TestRandomExpressions(t *testing.T) {
	t.Parallel()
	random := rand.New(rand.NewPCG(71, 1))
	for round := range 600 {
		letters := 1 + random.IntN(letterLimit)
		list := randomParts(random, letters, 1+random.IntN(partLimit-6*min(letters-1, 1)))
		words := [][]int64{{}, {0}, randomWord(random, letters, 12)}
		for range 4 {
			words = append(words, randomWord(random, letters, random.IntN(wordLimit+1)))
		}
		if letters < 3 || round%5 == 0 {
			checkParts(t, letters, list, words)
		} else {
			checkPartValues(t, letters, list, words)
		}
	}
	for range 300 {
		letters := 1 + random.IntN(letterLimit)
		list := randomParts(random, letters, 7+random.IntN(6))
		checkPartValues(t, letters, list, [][]int64{{}, {int64(letters - 1)}, randomWord(random, letters, 3), randomWord(random, letters, 8), randomWord(random, letters, 12)})
	}
}

// The automaton of an expression has its values.
func TestAutomataOfExpressionsHaveTheirValues(t *testing.T) {
	random := rand.New(rand.NewPCG(71, 2))
	found := 0
	for range 300 {
		letters := 1 + random.IntN(letterLimit)
		list := randomParts(random, letters, 7+random.IntN(6))
		a, ok := impl.AutomatonOfParts(int64(letters), list)
		if !ok {
			continue
		}
		found++
		for range 10 {
			word := randomWord(random, letters, random.IntN(wordLimit+1))
			value, _ := impl.ValueOf(a, word)
			want, ok := impl.ValueOfParts(int64(letters), list, word)
			wantText(t, fmt.Sprintf("%s for %v", partsText(list), word), value, ok, want)
		}
		small, ok := impl.ReduceAutomaton(a)
		wantAutomaton(t, "ReduceAutomaton of a reduced one", small, ok, autText(a))
	}
	if found < 50 {
		t.Errorf("only %d expressions have an automaton", found)
	}
}

func TestAllSmallExpressions(t *testing.T) {
	t.Parallel()
	alphabet := strings.Fields("0 1 -1 a b + . * !0 !2")
	tinyLists(alphabet, 4, func(words []string) {
		list := parts(strings.Join(words, " "))
		if got, want := impl.ValidParts(2, list), isExpression(2, list); got != want {
			t.Errorf("ValidParts of %v: got %v", list, got)
		}
		if isExpression(2, list) {
			checkPartValues(t, 2, list, wordsUpTo(2, 3))
		}
		if isExpression(1, list) {
			checkParts(t, 1, list, wordsUpTo(1, 4))
		}
	})
}

func TestRandomProductsAndStars(t *testing.T) {
	t.Parallel()
	random := rand.New(rand.NewPCG(71, 3))
	for round := range 150 {
		letters := 1 + round%letterLimit
		a, b := smallAutomaton(random, random.IntN(4), letters), smallAutomaton(random, random.IntN(4), letters)
		if letters > 1 {
			a = smallAutomaton(random, random.IntN(3), letters)
		}
		checkProducts(t, a, b)
		checkStar(t, a)
		if len(a.End) > 0 {
			a.End[0] = "0"
			a.Start = append([]string{"1"}, copies("0", len(a.Start)-1)...)
			checkStar(t, a)
		}
	}
}

// Products and stars of automata with up to six states, as far as all words tell.
func TestProductsAndStarsOfGreatAutomata(t *testing.T) {
	t.Parallel()
	random := rand.New(rand.NewPCG(71, 4))
	for range 60 {
		a, b := smallAutomaton(random, random.IntN(7), 1), smallAutomaton(random, random.IntN(7), 1)
		checkProducts(t, a, b)
		for i, x := range a.Start {
			if i > 0 && x != "0" {
				a.End[i] = "0"
			}
		}
		if len(a.End) > 0 {
			a.End[0] = "0"
		}
		checkStar(t, a)
	}
}

// withOtherStates returns an automaton of the same series with up to two states more, and all states mixed up.
func withOtherStates(random *rand.Rand, a impl.Automaton) impl.Automaton {
	m := withIdleStates(random, machineOf(a))
	change, inverse := invertible(random, len(m.start))
	return aut(changedStates(m, change, inverse).text())
}

// The results depend on the series alone.
func TestProductsAndStarsOfOtherStates(t *testing.T) {
	t.Parallel()
	random := rand.New(rand.NewPCG(71, 5))
	for round := range 60 {
		letters := 1 + round%letterLimit
		a, b := smallAutomaton(random, 1+random.IntN(3), letters), smallAutomaton(random, 1+random.IntN(2), letters)
		c, d := withOtherStates(random, a), withOtherStates(random, b)
		for _, operation := range []func(a, b impl.Automaton) (impl.Automaton, bool){impl.ConcatAutomata, impl.HadamardAutomata} {
			want, wantOK := operation(a, b)
			got, ok := operation(c, d)
			if ok != wantOK || autText(got) != autText(want) {
				t.Errorf("%s and %s: got %s, %v, want %s, %v", autText(c), autText(d), autText(got), ok, autText(want), wantOK)
			}
		}
		want, wantOK := impl.StarAutomaton(a)
		got, ok := impl.StarAutomaton(c)
		if ok != wantOK || autText(got) != autText(want) {
			t.Errorf("StarAutomaton of %s: got %s, %v, want %s, %v", autText(c), autText(got), ok, autText(want), wantOK)
		}
	}
}

// Laws of products and stars.
func TestLawsOfSeries(t *testing.T) {
	random := rand.New(rand.NewPCG(71, 6))
	for round := range 60 {
		letters := 1 + round%letterLimit
		ones := strings.Repeat(";1", letters)
		a := smallAutomaton(random, 1+random.IntN(3), letters)
		small, _ := impl.ReduceAutomaton(a)
		same, ok := impl.ConcatAutomata(a, aut("1;1"+strings.Repeat(";0", letters)))
		wantAutomaton(t, "a times 1", same, ok, autText(small))
		same, ok = impl.ConcatAutomata(aut("1;1"+strings.Repeat(";0", letters)), a)
		wantAutomaton(t, "1 times a", same, ok, autText(small))
		same, ok = impl.HadamardAutomata(a, aut("1;1"+ones))
		wantAutomaton(t, "a word by word times 1", same, ok, autText(small))
		b := smallAutomaton(random, 1+random.IntN(2), letters)
		one, okOne := impl.HadamardAutomata(a, b)
		two, okTwo := impl.HadamardAutomata(b, a)
		if okOne != okTwo || autText(one) != autText(two) {
			t.Errorf("%s and %s: %s and %s", autText(a), autText(b), autText(one), autText(two))
		}
	}
}

func TestRandomTables(t *testing.T) {
	t.Parallel()
	random := rand.New(rand.NewPCG(71, 7))
	for round := range 300 {
		letters := 1 + round%letterLimit
		length := random.IntN([]int{0, 13, 7, 5}[letters])
		a := smallAutomaton(random, random.IntN(stateLimit+1), letters)
		checkTable(t, a, length)
		small := smallAutomaton(random, random.IntN(3), letters)
		checkTable(t, small, length)
		table, ok := impl.TableOf(small, int64(length))
		if !ok || length == 0 {
			continue
		}
		place := random.IntN(len(table))
		table[place] = big.NewRat(int64(random.IntN(5)), 1).RatString()
		checkLearned(t, letters, length, table)
	}
}

// A table with words that are long enough teaches the reduced automaton.
func TestLongTablesTeachTheReducedAutomaton(t *testing.T) {
	random := rand.New(rand.NewPCG(71, 8))
	for round := range 200 {
		letters := 1 + round%letterLimit
		states := random.IntN([]int{0, 7, 4, 3}[letters])
		a := smallAutomaton(random, states, letters)
		length := []int64{0, 12, 6, 4}[letters]
		table, ok := impl.TableOf(a, length)
		if !ok {
			t.Errorf("TableOf %s fails", autText(a))
		}
		want, _ := impl.ReduceAutomaton(a)
		got, ok := impl.LearnFrom(int64(letters), length, table)
		wantAutomaton(t, "LearnFrom the table of "+autText(a), got, ok, autText(want))
	}
}

func TestRandomRecurrencesAndAutomata(t *testing.T) {
	t.Parallel()
	random := rand.New(rand.NewPCG(71, 9))
	for round := range 200 {
		checkOneLetter(t, smallRecurrence(random, random.IntN(orderLimit+1)))
		r, ok := longer(smallRecurrence(random, random.IntN(stateLimit+1)), []string{"1", "-1/2"}[:1+round%2])
		if ok {
			checkOneLetter(t, r)
		}
		letters := 1 + round%letterLimit
		checkLengths(t, smallAutomaton(random, random.IntN(stateLimit+1), letters))
	}
}

func TestAllTinyRecurrencesAndAutomata(t *testing.T) {
	t.Parallel()
	for _, r := range tinyRecurrences([]string{"0", "1", "-2"}, 3) {
		checkOneLetter(t, r)
		checkLengths(t, recAutomaton(r))
		a, ok := impl.AutomatonOfRecurrence(r)
		if !ok {
			continue
		}
		back, ok := impl.RecurrenceOfAutomaton(a)
		wantRecurrence(t, "there and back", back, ok, minimalText(r))
	}
}
