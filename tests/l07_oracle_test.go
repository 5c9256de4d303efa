package tests

import (
	"fmt"
	"math/big"
	"math/rand/v2"
	"slices"
	"strings"
	"testing"

	"loop.example/g01120/impl"
)

// What series are, in another way than the program's: the values of words one by one, by all ways to cut them, with fractions of math/big, and reduced automata as tables of values tell them.

// These limits are written out, so that wrong constants of the program are found.
const (
	partLimit  = 12
	tableLimit = 130
)

// Kinds of parts, written out too.
const (
	kindNumber = iota
	kindLetter
	kindSum
	kindProduct
	kindStar
	kindScale
)

// The letters of a word of the oracle are bytes, so that words can be keys and be cut: the letter 0 is `a`.
func spelled(word []int64) string {
	s := ""
	for _, letter := range word {
		s += string(rune('a' + letter))
	}
	return s
}

func unspelled(s string) []int64 {
	word := []int64{}
	for _, letter := range s {
		word = append(word, int64(letter-'a'))
	}
	return word
}

// spelledUpTo are all words with at most some letters, in their order.
func spelledUpTo(letters, length int) []string {
	words := []string{}
	for _, word := range wordsUpTo(letters, length) {
		words = append(words, spelled(word))
	}
	return words
}

// Series

// A series gives a number to each word.
type series func(word string) *big.Rat

// remembered is a series whose values are not computed twice.
func remembered(f series) series {
	known := map[string]*big.Rat{}
	return func(word string) *big.Rat {
		value, isKnown := known[word]
		if !isKnown {
			value = f(word)
			known[word] = value
		}
		return value
	}
}

func (f series) plus(g series) series {
	return remembered(func(word string) *big.Rat { return new(big.Rat).Add(f(word), g(word)) })
}

func (f series) wordwise(g series) series {
	return remembered(func(word string) *big.Rat { return new(big.Rat).Mul(f(word), g(word)) })
}

func (f series) scaled(by string) series {
	return remembered(func(word string) *big.Rat { return new(big.Rat).Mul(f(word), ratOf(by)) })
}

// cut adds up the products for all ways to cut a word in two, where the first piece has at least some letters.
func (f series) cut(g series, word string, least int) *big.Rat {
	sum := new(big.Rat)
	for i := least; i <= len(word); i++ {
		if first := f(word[:i]); first.Sign() != 0 {
			sum.Add(sum, new(big.Rat).Mul(first, g(word[i:])))
		}
	}
	return sum
}

func (f series) times(g series) series {
	return remembered(func(word string) *big.Rat { return f.cut(g, word, 0) })
}

func (f series) star() series {
	var stars series
	stars = remembered(func(word string) *big.Rat {
		if word == "" {
			return big.NewRat(1, 1)
		}
		return f.cut(stars, word, 1)
	})
	return stars
}

func numberSeries(number string) series {
	return func(word string) *big.Rat {
		if word == "" {
			return ratOf(number)
		}
		return new(big.Rat)
	}
}

func letterSeries(letter int64) series {
	return func(word string) *big.Rat {
		if word == spelled([]int64{letter}) {
			return big.NewRat(1, 1)
		}
		return new(big.Rat)
	}
}

// automatonSeries has the values of an automaton.
func automatonSeries(a impl.Automaton) series {
	m, columns := machineOf(a), map[string]rats{}
	var column func(word string) rats
	column = func(word string) rats {
		if word == "" {
			return m.end
		}
		if _, isKnown := columns[word]; !isKnown {
			columns[word] = m.before(int(word[0]-'a'), column(word[1:]))
		}
		return columns[word]
	}
	return remembered(func(word string) *big.Rat { return dotOf(m.start, column(word)) })
}

// Expressions

// arities tells how many expressions follow a part of each kind.
var arities = []int{0, 0, 2, 2, 1, 1}

// isExpression says what a valid expression is: the number of expressions that are still to come is 0 at the end, and not before.
func isExpression(letters int64, parts []impl.Part) bool {
	if letters < 1 || letters > letterLimit || len(parts) > partLimit {
		return false
	}
	open := 1
	for _, part := range parts {
		if open == 0 || part.Kind < 0 || part.Kind > kindScale {
			return false
		}
		hasNumber := part.Kind == kindNumber || part.Kind == kindScale
		if hasNumber && !isNumberText(part.Number) || !hasNumber && part.Number != "" {
			return false
		}
		if part.Kind == kindLetter && (part.Letter < 0 || part.Letter >= letters) || part.Kind != kindLetter && part.Letter != 0 {
			return false
		}
		open += arities[part.Kind] - 1
	}
	return open == 0
}

// expressionSeries reads the series of the expression that parts begin with, and returns the parts behind it; it is false if there is no series.
func expressionSeries(parts []impl.Part) (series, []impl.Part, bool) {
	part, rest, hasSeries := parts[0], parts[1:], true
	behind := []series{}
	for range arities[part.Kind] {
		f, after, ok := expressionSeries(rest)
		behind, rest, hasSeries = append(behind, f), after, hasSeries && ok
	}
	if !hasSeries {
		return nil, rest, false
	}
	switch part.Kind {
	case kindNumber:
		return numberSeries(part.Number), rest, true
	case kindLetter:
		return letterSeries(part.Letter), rest, true
	case kindSum:
		return behind[0].plus(behind[1]), rest, true
	case kindProduct:
		return behind[0].times(behind[1]), rest, true
	case kindScale:
		return behind[0].scaled(part.Number), rest, true
	}
	return behind[0].star(), rest, behind[0]("").Sign() == 0
}

// seriesOf is false if parts are no expression or have no series.
func seriesOf(letters int64, parts []impl.Part) (series, bool) {
	if !isExpression(letters, parts) {
		return nil, false
	}
	f, _, ok := expressionSeries(parts)
	return f, ok
}

// parts reads parts that a test writes, whether they are an expression or not.
func parts(s string) []impl.Part {
	list := []impl.Part{}
	for _, word := range partsOf(s, " ") {
		part := impl.Part{}
		switch first := word[:1]; first {
		case "+", ".", "*", "!":
			part.Kind = map[string]int64{"+": kindSum, ".": kindProduct, "*": kindStar, "!": kindScale}[first]
			part.Number = word[1:]
		case "a", "b", "c", "d":
			part.Kind, part.Letter, part.Number = kindLetter, int64(word[0]-'a'), word[1:]
		default:
			part.Number = word
		}
		list = append(list, part)
	}
	return list
}

func partsText(list []impl.Part) string {
	words := []string{}
	for _, part := range list {
		name := []string{"", string(rune('a' + part.Letter)), "+", ".", "*", "!"}[part.Kind]
		words = append(words, name+part.Number)
	}
	return strings.Join(words, " ")
}

// Tables

// tableSize is how many words with at most some letters there are.
func tableSize(letters, length int) int { return len(wordsUpTo(letters, length)) }

// taught is the automaton that the values of all words with at most some letters tell. It is false if a word of the base followed by a letter has another row, and for more states than an automaton has.
func taught(letters, length int, f series) (machine, bool) {
	half := (length - 1) / 2
	short := spelledUpTo(letters, half)
	row := func(word string) rats {
		list := rats{}
		for _, behind := range short {
			list = append(list, f(word+behind))
		}
		return list
	}
	found, words, rows := basis{}, []string{}, []rats{}
	for _, word := range short {
		if values := row(word); found.extends(values) {
			words, rows = append(words, word), append(rows, values)
		}
		if len(words) > stateLimit {
			return machine{}, false
		}
	}
	m := machine{}
	for i, word := range words {
		m.start, m.end = append(m.start, big.NewRat(int64(1-min(i, 1)), 1)), append(m.end, f(word))
	}
	for letter := range letters {
		move := []rats{}
		for _, word := range words {
			right, equations := row(word+string(rune('a'+letter))), []rats{}
			for k, x := range right {
				equation := rats{}
				for _, values := range rows {
					equation = append(equation, values[k])
				}
				equations = append(equations, append(equation, x))
			}
			numbers, isSum := solve(equations, len(rows))
			if !isSum {
				return machine{}, false
			}
			move = append(move, numbers)
		}
		m.moves = append(m.moves, move)
	}
	return m, true
}

// manyLetters are lengths of words that tell all about the series of these tests, for 1, 2 and 3 letters.
var manyLetters = []int{0, 25, 11, 7}

// reducedText is the text of the reduced automaton of a series that at most some states can give, and "" if it has too many states or digits.
func reducedText(letters, states int, f series) string {
	m, ok := taught(letters, min(max(2*states-1, 1), manyLetters[letters]), f)
	if !ok {
		return ""
	}
	return m.text()
}

// tableTexts is the table of a length; it is false if a number has too many digits.
func tableTexts(letters, length int, f series) ([]string, bool) {
	values := rats{}
	for _, word := range spelledUpTo(letters, length) {
		values = append(values, f(word))
	}
	return numbersOf(values)
}

// learnedText is the text of the automaton that a table tells, and "" if it tells none.
func learnedText(letters, length int, table []string) string {
	words := spelledUpTo(letters, length)
	known := map[string]*big.Rat{}
	for i, word := range words {
		known[word] = ratOf(table[i])
	}
	m, ok := taught(letters, length, func(word string) *big.Rat { return known[word] })
	if !ok || m.text() == "" {
		return ""
	}
	learned := automatonSeries(aut(m.text()))
	for _, word := range words {
		if learned(word).Cmp(known[word]) != 0 {
			return ""
		}
	}
	return m.text()
}

// Comparisons

// checkParts compares values of words, the automaton and the text of an expression with the oracle.
func checkParts(t *testing.T, letters int, list []impl.Part, words [][]int64) {
	t.Helper()
	text := fmt.Sprintf("%s over %d letters", partsText(list), letters)
	f, hasSeries := seriesOf(int64(letters), list)
	checkPartValues(t, letters, list, words)
	want := ""
	if hasSeries {
		want = reducedText(letters, len(list)+1, f)
	}
	a, ok := impl.AutomatonOfParts(int64(letters), list)
	wantAutomaton(t, "AutomatonOfParts of "+text, a, ok, want)
	written, ok := impl.PartsText(int64(letters), list)
	wantText(t, "PartsText of "+text, written, ok, partsText(list))
	read, ok := impl.ReadParts(int64(letters), written)
	if !ok || !slices.Equal(read, list) {
		t.Errorf("ReadParts of %s: got %v, %v", text, read, ok)
	}
}

// checkPartValues compares values of words alone.
func checkPartValues(t *testing.T, letters int, list []impl.Part, words [][]int64) {
	t.Helper()
	f, hasSeries := seriesOf(int64(letters), list)
	for _, word := range words {
		want := ""
		if hasSeries {
			want = textOf(f(spelled(word)))
		}
		value, ok := impl.ValueOfParts(int64(letters), list, word)
		wantText(t, fmt.Sprintf("ValueOfParts of %s over %d letters, %v", partsText(list), letters, word), value, ok, want)
	}
}

// checkProducts compares products of two series with the oracle.
func checkProducts(t *testing.T, a, b impl.Automaton) {
	t.Helper()
	f, g, letters := automatonSeries(a), automatonSeries(b), len(a.Moves)
	what := autText(a) + " and " + autText(b)
	product, ok := impl.ConcatAutomata(a, b)
	wantAutomaton(t, "ConcatAutomata of "+what, product, ok, reducedText(letters, len(a.Start)+len(b.Start), f.times(g)))
	wordwise, ok := impl.HadamardAutomata(a, b)
	wantAutomaton(t, "HadamardAutomata of "+what, wordwise, ok, reducedText(letters, len(a.Start)*len(b.Start), f.wordwise(g)))
}

// checkStar compares the star of a series with the oracle.
func checkStar(t *testing.T, a impl.Automaton) {
	t.Helper()
	f, want := automatonSeries(a), ""
	if f("").Sign() == 0 {
		want = reducedText(len(a.Moves), len(a.Start)+1, f.star())
	}
	star, ok := impl.StarAutomaton(a)
	wantAutomaton(t, "StarAutomaton of "+autText(a), star, ok, want)
}

// checkTable compares the table of a length with the oracle, and what it tells.
func checkTable(t *testing.T, a impl.Automaton, length int) {
	t.Helper()
	letters := len(a.Moves)
	what := fmt.Sprintf("the table of the length %d of %s", length, autText(a))
	want, fits := []string(nil), tableSize(letters, length) <= tableLimit
	if fits {
		want, fits = tableTexts(letters, length, automatonSeries(a))
	}
	table, ok := impl.TableOf(a, int64(length))
	if ok != fits || !slices.Equal(table, want) {
		t.Errorf("%s: got %q, %v, want %q", what, table, ok, want)
	}
	if !fits {
		return
	}
	checkLearned(t, letters, length, table)
}

// checkLearned compares what a table tells with the oracle.
func checkLearned(t *testing.T, letters, length int, table []string) {
	t.Helper()
	want := ""
	if length > 0 {
		want = learnedText(letters, length, table)
	}
	learned, ok := impl.LearnFrom(int64(letters), int64(length), table)
	wantAutomaton(t, fmt.Sprintf("LearnFrom %q for %d letters and the length %d", table, letters, length), learned, ok, want)
}

// checkLengths compares the recurrences of an automaton with the oracle.
func checkLengths(t *testing.T, a impl.Automaton) {
	t.Helper()
	sums := leastText(machineOf(a).levelSums(4 * orderLimit))
	level, ok := impl.LevelRecurrence(a)
	wantRecurrence(t, "LevelRecurrence of "+autText(a), level, ok, sums)
	if len(a.Moves) > 1 {
		sums = ""
	}
	r, ok := impl.RecurrenceOfAutomaton(a)
	wantRecurrence(t, "RecurrenceOfAutomaton of "+autText(a), r, ok, sums)
}

// checkOneLetter compares the automaton of a recurrence with the oracle.
func checkOneLetter(t *testing.T, r impl.Recurrence) {
	t.Helper()
	want := minimalText(r)
	if want != "" {
		least := recAutomaton(rec(want))
		want = autText(least)
		if len(least.Start) > stateLimit {
			want = ""
		}
	}
	a, ok := impl.AutomatonOfRecurrence(r)
	wantAutomaton(t, "AutomatonOfRecurrence of "+recText(r), a, ok, want)
}

// randomParts has an expression with some parts; a letter is more likely than a number.
func randomParts(random *rand.Rand, letters, count int) []impl.Part {
	number := func() string {
		return big.NewRat(int64(random.IntN(7)-3), int64(1+random.IntN(3)*random.IntN(2))).RatString()
	}
	if count == 1 {
		if random.IntN(4) == 0 {
			return []impl.Part{{Kind: kindNumber, Number: number()}}
		}
		return []impl.Part{{Kind: kindLetter, Letter: random.Int64N(int64(letters))}}
	}
	if count == 2 || random.IntN(3) == 0 {
		first := impl.Part{Kind: kindStar}
		if random.IntN(3) == 0 {
			first = impl.Part{Kind: kindScale, Number: number()}
		}
		return append([]impl.Part{first}, randomParts(random, letters, count-1)...)
	}
	first := impl.Part{Kind: kindSum + random.Int64N(2)}
	left := 1 + random.IntN(count-2)
	return slices.Concat([]impl.Part{first}, randomParts(random, letters, left), randomParts(random, letters, count-1-left))
}
