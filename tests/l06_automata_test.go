package tests

import (
	"fmt"
	"math/big"
	"math/rand/v2"
	"slices"
	"strings"
	"testing"

	"loop.example/g01120/impl"
)

// Promise 7: ordinary automata.

func TestAutomatonLimits(t *testing.T) {
	got := []int64{impl.MaxStates, impl.MaxLetters, impl.MaxWord, impl.MaxLevels}
	if want := []int64{6, 3, 12, 20}; !slices.Equal(got, want) {
		t.Errorf("got %v, want %v", got, want)
	}
}

func TestExamplesOfAutomata(t *testing.T) {
	text := "1,0;0,1;1,1|0,1;1,0|0,1"
	a, ok := impl.ReadAutomaton(text)
	wantAutomaton(t, "ReadAutomaton", a, ok, text)
	for _, word := range wordsUpTo(2, 6) {
		zeros := 0
		for _, letter := range word {
			zeros += 1 - int(letter)
		}
		value, ok := impl.ValueOf(a, word)
		wantText(t, fmt.Sprint("value of ", word), value, ok, fmt.Sprint(zeros))
	}
	rank, ok := impl.RankOfSeries(a)
	wantInt(t, "RankOfSeries", rank, ok, 2, true)
	words, ok := impl.RowWords(a)
	if !ok || fmt.Sprint(words) != "[[] [0]]" {
		t.Errorf("RowWords: got %v, %v", words, ok)
	}
	other, _ := impl.ReadAutomaton("1;1;1;1")
	word, ok := impl.TellingWord(a, other)
	wantWord(t, "TellingWord", word, ok, nil, true)
	same, ok := impl.SameSeries(a, other)
	if same || !ok {
		t.Errorf("SameSeries: got %v, %v", same, ok)
	}
	first, ok := impl.FirstNonzero(a)
	wantWord(t, "FirstNonzero", first, ok, []int64{0}, true)
	sums, ok := impl.LevelSums(a, 5)
	wantList(t, "LevelSums", sums, ok, "0,1,4,12,32")
	small, ok := impl.ReduceAutomaton(a)
	wantAutomaton(t, "ReduceAutomaton", small, ok, "1,0;0,1;0,1|-1,2;1,0|0,1")
}

func TestRandomAutomata(t *testing.T) {
	t.Parallel()
	random := rand.New(rand.NewPCG(61, 1))
	for round := range 300 {
		letters := 1 + random.IntN(letterLimit)
		states := random.IntN(stateLimit + 1)
		a := smallAutomaton(random, states, letters)
		words := [][]int64{{}, randomWord(random, letters, 1), randomWord(random, letters, wordLimit)}
		for range 3 {
			words = append(words, randomWord(random, letters, random.IntN(wordLimit+1)))
		}
		checkValues(t, a, words)
		checkLevels(t, a, random.IntN(levelLimit+1))
		by := big.NewRat(int64(random.IntN(11)-5), int64(1+random.IntN(4))).RatString()
		checkOperations(t, a, smallAutomaton(random, random.IntN(stateLimit+1), letters), by)
		if states < 5 || letters < 3 || round%40 == 0 {
			checkRows(t, a)
		}
		if other := random.IntN(4); letters < 3 || states+other <= 6 {
			checkTelling(t, a, smallAutomaton(random, other, letters))
		}
	}
}

func TestAllAutomataWithOneState(t *testing.T) {
	t.Parallel()
	items := []string{"0", "1", "-1", "2", "-1/2"}
	for letters := 1; letters <= letterLimit; letters++ {
		tinyLists(items, 2+letters, func(list []string) {
			if len(list) < 2+letters {
				return
			}
			a := aut(strings.Join(list, ";"))
			checkRows(t, a)
			checkValues(t, a, [][]int64{{}, {0}, {int64(letters - 1), 0, 0}})
			checkTelling(t, a, aut("2;1"+strings.Repeat(";-1", letters)))
		})
	}
}

func TestAllAutomataWithTwoStates(t *testing.T) {
	t.Parallel()
	for letters := 1; letters <= 2; letters++ {
		others := []impl.Automaton{aut("1;1" + strings.Repeat(";1", letters)), aut("0,1;1,0" + strings.Repeat(";0,1|1,0", letters)), aut(";" + strings.Repeat(";", letters))}
		for code := range 1 << (4 + 4*letters) {
			next := func() string {
				bit := code % 2
				code /= 2
				return []string{"0", "1"}[bit]
			}
			a := randomAutomaton(2, letters, next)
			checkRows(t, a)
			checkTelling(t, a, others[code%3])
		}
	}
}

// changedStates returns an automaton of the same series: the new states are sums of multiples of the old ones, told by a matrix and its inverse.
func changedStates(m machine, change, inverse []rats) machine {
	rowsTimes := func(rows, matrix []rats) []rats {
		products := []rats{}
		for _, row := range rows {
			product := rats{}
			for k := range matrix[0] {
				column := rats{}
				for _, other := range matrix {
					column = append(column, other[k])
				}
				product = append(product, dotOf(row, column))
			}
			products = append(products, product)
		}
		return products
	}
	changed := machine{start: rowsTimes([]rats{m.start}, inverse)[0]}
	for _, row := range change {
		changed.end = append(changed.end, dotOf(row, m.end))
	}
	for _, move := range m.moves {
		changed.moves = append(changed.moves, rowsTimes(rowsTimes(change, move), inverse))
	}
	return changed
}

// invertible returns a matrix of small integers and its inverse, which has such, too: it adds multiples of rows to others.
func invertible(random *rand.Rand, size int) (change, inverse []rats) {
	for i := range size {
		change, inverse = append(change, zeros(size)), append(inverse, zeros(size))
		change[i][i], inverse[i][i] = big.NewRat(1, 1), big.NewRat(1, 1)
	}
	for range 2 * size {
		i, k, factor := random.IntN(size), random.IntN(size), big.NewRat(int64(random.IntN(5)-2), 1)
		if i == k {
			continue
		}
		for c := range size {
			change[i][c] = new(big.Rat).Add(change[i][c], new(big.Rat).Mul(factor, change[k][c]))
			inverse[c][k] = new(big.Rat).Sub(inverse[c][k], new(big.Rat).Mul(factor, inverse[c][i]))
		}
	}
	return change, inverse
}

// withIdleStates returns an automaton with one state more that is never reached, and one more from which nothing is seen.
func withIdleStates(random *rand.Rand, m machine) machine {
	some := func() *big.Rat { return big.NewRat(int64(random.IntN(7)-3), 1) }
	zero := new(big.Rat)
	larger := machine{start: append(slices.Clone(m.start), zero, some()), end: append(slices.Clone(m.end), some(), zero)}
	for _, move := range m.moves {
		rows := []rats{}
		for _, row := range move {
			rows = append(rows, append(slices.Clone(row), zero, some()))
		}
		fresh, blind := rats{}, rats{}
		for range larger.start {
			fresh, blind = append(fresh, some()), append(blind, zero)
		}
		blind[len(blind)-1] = some()
		larger.moves = append(larger.moves, append(rows, fresh, blind))
	}
	return larger
}

func TestSameSeriesWithOtherStates(t *testing.T) {
	random := rand.New(rand.NewPCG(61, 2))
	for range 150 {
		letters, states := 1+random.IntN(letterLimit), 1+random.IntN(4)
		m := machineOf(smallAutomaton(random, states, letters))
		larger := withIdleStates(random, m)
		change, inverse := invertible(random, states+2)
		a, b := aut(m.text()), aut(changedStates(larger, change, inverse).text())
		same, ok := impl.SameSeries(a, b)
		if !same || !ok {
			t.Errorf("SameSeries of %s and %s: got %v, %v", autText(a), autText(b), same, ok)
		}
		word, ok := impl.TellingWord(a, b)
		wantWord(t, "TellingWord of one series", word, ok, nil, false)
		first, okFirst := impl.ReduceAutomaton(a)
		second, okSecond := impl.ReduceAutomaton(b)
		if okFirst != okSecond || autText(first) != autText(second) {
			t.Errorf("ReduceAutomaton of %s and %s: got %s and %s", autText(a), autText(b), autText(first), autText(second))
		}
		third, ok := impl.ReduceAutomaton(first)
		wantAutomaton(t, "ReduceAutomaton twice", third, ok, autText(first))
		words, _ := impl.RowWords(a)
		others, _ := impl.RowWords(b)
		if !slices.EqualFunc(words, others, slices.Equal[[]int64]) || len(words) != len(first.Start) {
			t.Errorf("RowWords of %s and %s: got %v and %v", autText(a), autText(b), words, others)
		}
	}
}

func TestReducedAutomataHaveAllValues(t *testing.T) {
	random := rand.New(rand.NewPCG(61, 3))
	for range 60 {
		letters := 1 + random.IntN(letterLimit)
		a := smallAutomaton(random, 1+random.IntN(stateLimit), letters)
		small, ok := impl.ReduceAutomaton(a)
		if !ok {
			t.Errorf("ReduceAutomaton of %s fails", autText(a))
			continue
		}
		for range 20 {
			word := randomWord(random, letters, random.IntN(wordLimit+1))
			value, ok := impl.ValueOf(a, word)
			other, okOther := impl.ValueOf(small, word)
			if value != other || ok != okOther {
				t.Errorf("%v has the values %s and %s for %s and %s", word, value, other, autText(a), autText(small))
			}
		}
	}
}

// What operations do to the values of words.
func TestOperationsOnValues(t *testing.T) {
	random := rand.New(rand.NewPCG(61, 4))
	for range 100 {
		letters := 1 + random.IntN(letterLimit)
		a, b := smallAutomaton(random, random.IntN(4), letters), smallAutomaton(random, random.IntN(4), letters)
		word := randomWord(random, letters, random.IntN(7))
		cut := random.IntN(len(word) + 1)
		x, y := machineOf(a).value(word), machineOf(b).value(word)
		sum, _ := impl.AddAutomata(a, b)
		got, ok := impl.ValueOf(sum, word)
		wantText(t, "value of a sum", got, ok, textOf(new(big.Rat).Add(x, y)))
		scaled, _ := impl.ScaleAutomaton(a, "-3/2")
		got, ok = impl.ValueOf(scaled, word)
		wantText(t, "value of a multiple", got, ok, textOf(new(big.Rat).Mul(x, big.NewRat(-3, 2))))
		behind, _ := impl.BehindWord(a, word[:cut])
		got, ok = impl.ValueOf(behind, word[cut:])
		wantText(t, "value behind a word", got, ok, textOf(x))
		reversed, _ := impl.ReverseAutomaton(a)
		back := slices.Clone(word)
		slices.Reverse(back)
		got, ok = impl.ValueOf(reversed, back)
		wantText(t, "value of the opposite word", got, ok, textOf(x))
	}
}

// The sums for each length are those of all words, one by one.
func TestLevelSumsAddValuesUp(t *testing.T) {
	random := rand.New(rand.NewPCG(61, 5))
	for range 40 {
		letters := 1 + random.IntN(letterLimit)
		a := smallAutomaton(random, random.IntN(4), letters)
		sums := make(rats, 6)
		for i := range sums {
			sums[i] = new(big.Rat)
		}
		for _, word := range wordsUpTo(letters, 5) {
			sums[len(word)].Add(sums[len(word)], machineOf(a).value(word))
		}
		want, _ := numbersOf(sums)
		got, ok := impl.LevelSums(a, 6)
		wantList(t, "LevelSums of "+autText(a), got, ok, listText(want))
	}
}

func TestAutomataWithGreatNumbers(t *testing.T) {
	t.Parallel()
	random := rand.New(rand.NewPCG(61, 6))
	for round := range 20 {
		letters, states := 1+random.IntN(letterLimit), 1+random.IntN(3)
		a := randomAutomaton(states, letters, func() string { return randomNumber(random) })
		checkValues(t, a, [][]int64{{}, {0}, randomWord(random, letters, 3)})
		checkLevels(t, a, round%4)
		checkRows(t, a)
		checkTelling(t, a, randomAutomaton(1, letters, func() string { return randomNumber(random) }))
		checkTelling(t, a, a)
		checkOperations(t, a, smallAutomaton(random, 3, letters), randomNumber(random))
	}
}
