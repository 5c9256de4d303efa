package tests

import (
	"math/big"
	"math/rand/v2"
	"slices"
	"strings"
	"testing"

	"loop.example/g01120/impl"
)

// What automata are, in another way than the program's: the values of all words up to a length, one by one with fractions of math/big, and linear equations for rows of so many values.

// These limits are written out, so that wrong constants of the program are found.
const (
	stateLimit  = 6
	letterLimit = 3
	wordLimit   = 12
	levelLimit  = 20
)

// partsOf are the pieces of a text that a test writes; an empty text has none.
func partsOf(s, separator string) []string {
	if s == "" {
		return []string{}
	}
	return strings.Split(s, separator)
}

// aut reads an automaton that a test writes, whether it is valid or not.
func aut(s string) impl.Automaton {
	a := impl.Automaton{}
	for i, part := range strings.Split(s, ";") {
		move := [][]string{}
		switch i {
		case 0:
			a.Start = partsOf(part, ",")
		case 1:
			a.End = partsOf(part, ",")
		default:
			for _, row := range partsOf(part, "|") {
				move = append(move, partsOf(row, ","))
			}
			a.Moves = append(a.Moves, move)
		}
	}
	return a
}

func autText(a impl.Automaton) string {
	parts := []string{strings.Join(a.Start, ","), strings.Join(a.End, ",")}
	for _, move := range a.Moves {
		rows := []string{}
		for _, row := range move {
			rows = append(rows, strings.Join(row, ","))
		}
		parts = append(parts, strings.Join(rows, "|"))
	}
	return strings.Join(parts, ";")
}

// isAutomaton says what a valid automaton is.
func isAutomaton(a impl.Automaton) bool {
	if len(a.Start) > stateLimit || len(a.Moves) == 0 || len(a.Moves) > letterLimit {
		return false
	}
	lists, rows := [][]string{a.Start, a.End}, 0
	for _, move := range a.Moves {
		lists, rows = append(lists, move...), rows+len(move)
		if len(move) != len(a.Start) {
			return false
		}
	}
	return !slices.ContainsFunc(lists, func(list []string) bool { return len(list) != len(a.Start) || !areNumbers(list) })
}

// isWordOf says what a word over the alphabet of an automaton is.
func isWordOf(a impl.Automaton, word []int64) bool {
	return len(word) <= wordLimit && !slices.ContainsFunc(word, func(letter int64) bool { return letter < 0 || letter >= int64(len(a.Moves)) })
}

// A machine is an automaton with any number of states.
type machine struct {
	start, end rats
	moves      [][]rats
}

func machineOf(a impl.Automaton) machine {
	m := machine{start: ratsOf(a.Start), end: ratsOf(a.End)}
	for _, move := range a.Moves {
		rows := []rats{}
		for _, row := range move {
			rows = append(rows, ratsOf(row))
		}
		m.moves = append(m.moves, rows)
	}
	return m
}

func dotOf(a, b rats) *big.Rat {
	sum := new(big.Rat)
	for i, x := range a {
		sum.Add(sum, new(big.Rat).Mul(x, b[i]))
	}
	return sum
}

// before is the column of a letter and what has a column behind it.
func (m machine) before(letter int, column rats) rats {
	list := rats{}
	for _, row := range m.moves[letter] {
		list = append(list, dotOf(row, column))
	}
	return list
}

// behind is the vector that a letter makes of a vector.
func (m machine) behind(vector rats, letter int) rats {
	list := rats{}
	for k := range vector {
		column := rats{}
		for _, row := range m.moves[letter] {
			column = append(column, row[k])
		}
		list = append(list, dotOf(vector, column))
	}
	return list
}

// column has the values of a word for the states, found from its end on.
func (m machine) column(word []int64) rats {
	column := m.end
	for _, letter := range slices.Backward(word) {
		column = m.before(int(letter), column)
	}
	return column
}

func (m machine) value(word []int64) *big.Rat { return dotOf(m.start, m.column(word)) }

// wordsUpTo are all words with at most some letters, in their order.
func wordsUpTo(letters, length int) [][]int64 {
	all, level := [][]int64{{}}, [][]int64{{}}
	for range length {
		next := [][]int64{}
		for letter := range letters {
			for _, word := range level {
				next = append(next, append([]int64{int64(letter)}, word...))
			}
		}
		all, level = append(all, next...), next
	}
	return all
}

// columnsUpTo are the columns of these words.
func (m machine) columnsUpTo(length int) []rats {
	all, level := []rats{m.end}, []rats{m.end}
	for range length {
		next := []rats{}
		for letter := range m.moves {
			for _, column := range level {
				next = append(next, m.before(letter, column))
			}
		}
		all, level = append(all, next...), next
	}
	return all
}

// firstWord is the first word with a value that is not 0 of those with at most some letters; it is false if there is none.
func (m machine) firstWord(length int) ([]int64, bool) {
	for i, column := range m.columnsUpTo(length) {
		if dotOf(m.start, column).Sign() != 0 {
			return wordsUpTo(len(m.moves), length)[i], true
		}
	}
	return nil, false
}

// with has the states of both and the sums of their values, or the differences.
func (m machine) with(other machine, sign int64) machine {
	both := machine{start: slices.Concat(m.start, other.start), end: slices.Concat(m.end, other.end.scaledBy(sign))}
	for letter, move := range m.moves {
		rows := []rats{}
		for _, row := range move {
			rows = append(rows, append(slices.Clone(row), zeros(len(other.start))...))
		}
		for _, row := range other.moves[letter] {
			rows = append(rows, append(zeros(len(m.start)), row...))
		}
		both.moves = append(both.moves, rows)
	}
	return both
}

func zeros(count int) rats {
	list := rats{}
	for range count {
		list = append(list, new(big.Rat))
	}
	return list
}

func (p rats) scaledBy(n int64) rats {
	list := rats{}
	for _, x := range p {
		list = append(list, new(big.Rat).Mul(x, big.NewRat(n, 1)))
	}
	return list
}

// row are the values of a word followed by all others whose columns are given.
func (m machine) row(word []int64, columns []rats) rats {
	vector, list := m.start, rats{}
	for _, letter := range word {
		vector = m.behind(vector, int(letter))
	}
	for _, column := range columns {
		list = append(list, dotOf(vector, column))
	}
	return list
}

// A basis has reduced rows, each with the column where it leads.
type basis struct {
	rows  []rats
	leads []int
}

// extends adds a row if it is no sum of multiples of those before.
func (b *basis) extends(row rats) bool {
	row = slices.Clone(row)
	for i, other := range b.rows {
		factor := new(big.Rat).Quo(row[b.leads[i]], other[b.leads[i]])
		if factor.Sign() == 0 {
			continue
		}
		for k, x := range other {
			row[k] = new(big.Rat).Sub(row[k], new(big.Rat).Mul(factor, x))
		}
	}
	lead := slices.IndexFunc(row, func(x *big.Rat) bool { return x.Sign() != 0 })
	if lead >= 0 {
		b.rows, b.leads = append(b.rows, row), append(b.leads, lead)
	}
	return lead >= 0
}

// rowWords looks at all words with less letters than there are states.
func (m machine) rowWords() [][]int64 {
	length := max(len(m.start)-1, 0)
	columns, found, words := m.columnsUpTo(length), basis{}, [][]int64{}
	for _, word := range wordsUpTo(len(m.moves), length) {
		if found.extends(m.row(word, columns)) {
			words = append(words, word)
		}
	}
	return words
}

// reduced has a state for each row word.
func (m machine) reduced() machine {
	words, columns := m.rowWords(), m.columnsUpTo(max(len(m.start)-1, 0))
	small, rows := machine{}, []rats{}
	for i, word := range words {
		small.start = append(small.start, big.NewRat(int64(1-min(i, 1)), 1))
		small.end = append(small.end, m.value(word))
		rows = append(rows, m.row(word, columns))
	}
	for letter := range m.moves {
		move := []rats{}
		for _, word := range words {
			right, equations := m.row(append(slices.Clone(word), int64(letter)), columns), []rats{}
			for k := range columns {
				equation := rats{}
				for _, row := range rows {
					equation = append(equation, row[k])
				}
				equations = append(equations, append(equation, right[k]))
			}
			numbers, found := solve(equations, len(rows))
			if !found {
				panic("a row is a sum of multiples of those of the row words")
			}
			move = append(move, numbers)
		}
		small.moves = append(small.moves, move)
	}
	return small
}

// text is the text of a result, and "" if a number has too many digits.
func (m machine) text() string {
	lists := []rats{m.start, m.end}
	for _, move := range m.moves {
		lists = append(lists, move...)
	}
	a, fits := impl.Automaton{}, true
	texts := func(list rats) []string {
		numbers, ok := numbersOf(list)
		fits = fits && ok
		return numbers
	}
	a.Start, a.End = texts(lists[0]), texts(lists[1])
	for _, move := range m.moves {
		rows := [][]string{}
		for _, row := range move {
			rows = append(rows, texts(row))
		}
		a.Moves = append(a.Moves, rows)
	}
	if !fits {
		return ""
	}
	return autText(a)
}

// levelSums adds the columns of all letters up.
func (m machine) levelSums(count int) rats {
	sums, column := rats{}, m.end
	for range count {
		sums = append(sums, dotOf(m.start, column))
		next := zeros(len(column))
		for letter := range m.moves {
			for i, x := range m.before(letter, column) {
				next[i] = new(big.Rat).Add(next[i], x)
			}
		}
		column = next
	}
	return sums
}

// wantAutomaton checks a result that is an automaton; the wanted text "" means that the function fails.
func wantAutomaton(t *testing.T, what string, got impl.Automaton, ok bool, want string) {
	t.Helper()
	if want == "" {
		if ok || len(got.Start)+len(got.End)+len(got.Moves) != 0 {
			t.Errorf("%s: got %.2000s, %v, want a failure", what, autText(got), ok)
		}
		return
	}
	if !ok || !isAutomaton(got) || autText(got) != want {
		t.Errorf("%s: got %.2000s, %v, want %.2000s", what, autText(got), ok, want)
	}
}

// wantWord checks a result that is a word.
func wantWord(t *testing.T, what string, got []int64, ok bool, want []int64, wantOK bool) {
	t.Helper()
	if ok != wantOK || !slices.Equal(got, want) {
		t.Errorf("%s: got %v, %v, want %v, %v", what, got, ok, want, wantOK)
	}
}

// checkValues compares values of words with the oracle.
func checkValues(t *testing.T, a impl.Automaton, words [][]int64) {
	t.Helper()
	m := machineOf(a)
	for _, word := range words {
		got, ok := impl.ValueOf(a, word)
		wantText(t, "ValueOf "+autText(a), got, ok, textOf(m.value(word)))
		behind, ok := impl.BehindWord(a, word)
		for _, letter := range word {
			m.start = m.behind(m.start, int(letter))
		}
		wantAutomaton(t, "BehindWord of "+autText(a), behind, ok, m.text())
		m.start = ratsOf(a.Start)
	}
}

// checkLevels compares sums for each length with the oracle.
func checkLevels(t *testing.T, a impl.Automaton, count int) {
	t.Helper()
	got, ok := impl.LevelSums(a, int64(count))
	want, fits := numbersOf(machineOf(a).levelSums(count))
	if ok != fits || !slices.Equal(got, want) {
		t.Errorf("LevelSums of %s: got %q, %v, want %q", autText(a), got, ok, want)
	}
}

// checkRows compares first words, row words, ranks and reduced automata with the oracle.
func checkRows(t *testing.T, a impl.Automaton) {
	t.Helper()
	m, text := machineOf(a), autText(a)
	first, ok := impl.FirstNonzero(a)
	want, found := m.firstWord(max(len(a.Start)-1, 0))
	wantWord(t, "FirstNonzero of "+text, first, ok, want, found)
	words, ok := impl.RowWords(a)
	rows := m.rowWords()
	if !ok || !slices.EqualFunc(words, rows, slices.Equal[[]int64]) {
		t.Errorf("RowWords of %s: got %v, %v, want %v", text, words, ok, rows)
	}
	rank, ok := impl.RankOfSeries(a)
	wantInt(t, "RankOfSeries of "+text, rank, ok, int64(len(rows)), true)
	small, ok := impl.ReduceAutomaton(a)
	wantAutomaton(t, "ReduceAutomaton of "+text, small, ok, m.reduced().text())
}

// checkTelling compares SameSeries and TellingWord with the oracle.
func checkTelling(t *testing.T, a, b impl.Automaton) {
	t.Helper()
	what := autText(a) + " and " + autText(b)
	want, found := machineOf(a).with(machineOf(b), -1).firstWord(max(len(a.Start)+len(b.Start)-1, 0))
	word, ok := impl.TellingWord(a, b)
	wantWord(t, "TellingWord of "+what, word, ok, want, found)
	same, ok := impl.SameSeries(a, b)
	if same == found || !ok {
		t.Errorf("SameSeries of %s: got %v, %v, want %v", what, same, ok, !found)
	}
}

// checkOperations compares the operations and the text with the oracle.
func checkOperations(t *testing.T, a, b impl.Automaton, by string) {
	t.Helper()
	m, text := machineOf(a), autText(a)
	want := ""
	if both := m.with(machineOf(b), 1); len(both.start) <= stateLimit {
		want = both.text()
	}
	sum, ok := impl.AddAutomata(a, b)
	wantAutomaton(t, "AddAutomata of "+text+" and "+autText(b), sum, ok, want)
	multiple, ends := m, rats{}
	for _, x := range m.end {
		ends = append(ends, new(big.Rat).Mul(x, ratOf(by)))
	}
	multiple.end = ends
	scaled, ok := impl.ScaleAutomaton(a, by)
	wantAutomaton(t, "ScaleAutomaton of "+text+" by "+by, scaled, ok, multiple.text())
	back := impl.Automaton{Start: a.End, End: a.Start}
	for _, move := range a.Moves {
		columns := [][]string{}
		for k := range move {
			column := []string{}
			for _, row := range move {
				column = append(column, row[k])
			}
			columns = append(columns, column)
		}
		back.Moves = append(back.Moves, columns)
	}
	reversed, ok := impl.ReverseAutomaton(a)
	wantAutomaton(t, "ReverseAutomaton of "+text, reversed, ok, autText(back))
	got, ok := impl.AutomatonText(a)
	wantText(t, "AutomatonText", got, ok, text)
	read, ok := impl.ReadAutomaton(text)
	wantAutomaton(t, "ReadAutomaton of "+text, read, ok, text)
}

// randomAutomaton has numbers that number returns.
func randomAutomaton(states, letters int, number func() string) impl.Automaton {
	list := func() []string {
		numbers := []string{}
		for range states {
			numbers = append(numbers, number())
		}
		return numbers
	}
	a := impl.Automaton{Start: list(), End: list()}
	for range letters {
		move := [][]string{}
		for range states {
			move = append(move, list())
		}
		a.Moves = append(a.Moves, move)
	}
	return a
}

// smallAutomaton has small numbers, of which many are 0.
func smallAutomaton(random *rand.Rand, states, letters int) impl.Automaton {
	zeros := random.IntN(5)
	return randomAutomaton(states, letters, func() string {
		if random.IntN(5) < zeros {
			return "0"
		}
		return big.NewRat(int64(random.IntN(7)-3), int64(1+random.IntN(3)*random.IntN(2))).RatString()
	})
}

// randomWord has letters of an alphabet.
func randomWord(random *rand.Rand, letters, length int) []int64 {
	word := []int64{}
	for range length {
		word = append(word, random.Int64N(int64(letters)))
	}
	return word
}
