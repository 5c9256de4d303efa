package tests

import (
	"fmt"
	"math"
	"math/big"
	"math/rand/v2"
	"slices"
	"strings"
	"testing"

	"loop.example/g01120/impl"
)

// Promise 7 at its edges.

// chain has states one after another: the letter at i leads from the state i to the next one, and only the last one has a value.
func chain(letters int, path []int64) impl.Automaton {
	states := len(path) + 1
	a := randomAutomaton(states, letters, func() string { return "0" })
	a.Start[0], a.End[states-1] = "1", "1"
	for i, letter := range path {
		a.Moves[letter][i][i+1] = "1"
	}
	return a
}

// recAutomaton has a letter for one term after another.
func recAutomaton(r impl.Recurrence) impl.Automaton {
	order := len(r.Start)
	a := randomAutomaton(order, 1, func() string { return "0" })
	copy(a.End, r.Start)
	if order == 0 {
		return a
	}
	a.Start[0] = "1"
	for i := range order - 1 {
		a.Moves[0][i][i+1] = "1"
	}
	for i, c := range r.Coeffs {
		a.Moves[0][order-1][order-1-i] = c
	}
	return a
}

// wantReduced checks that an automaton is reduced to one that a test wants, which the oracle must confirm.
func wantReduced(t *testing.T, a impl.Automaton, want string) {
	t.Helper()
	if found := machineOf(a).reduced().text(); found != want {
		t.Errorf("the test wants %q for %s, which is %q", want, autText(a), found)
	}
	got, ok := impl.ReduceAutomaton(a)
	wantAutomaton(t, "ReduceAutomaton of "+autText(a), got, ok, want)
}

func TestAutomataWithoutStates(t *testing.T) {
	for letters := 1; letters <= letterLimit; letters++ {
		text := ";" + strings.Repeat(";", letters)
		for _, a := range []impl.Automaton{aut(text), {Moves: make([][][]string, letters)}, {Start: []string{}, End: []string{}, Moves: slices.Repeat([][][]string{{}}, letters)}} {
			if !impl.ValidAutomaton(a) {
				t.Errorf("%#v is valid", a)
			}
			checkValues(t, a, [][]int64{{}, {0}, {int64(letters - 1)}, make([]int64, 12)})
			checkLevels(t, a, 20)
			checkRows(t, a)
			other := smallAutomaton(rand.New(rand.NewPCG(62, 1)), 6, letters)
			checkOperations(t, a, other, "-1/2")
			checkOperations(t, other, a, "0")
			checkOperations(t, a, a, "1")
			checkTelling(t, a, a)
			checkTelling(t, a, aut("1;0"+strings.Repeat(";1", letters)))
			checkTelling(t, aut("1;0"+strings.Repeat(";1", letters)), a)
			checkTelling(t, a, aut("1;-1/7"+strings.Repeat(";0", letters)))
			wantReduced(t, a, text)
		}
	}
}

func TestNumbersOfStatesAndLetters(t *testing.T) {
	t.Parallel()
	one := func() string { return "1" }
	for states := range 9 {
		for letters := range 6 {
			a := randomAutomaton(states, letters, one)
			want := states <= 6 && letters >= 1 && letters <= 3
			if impl.ValidAutomaton(a) != want {
				t.Errorf("%d states and %d letters: want %v", states, letters, want)
			}
			_, isRead := impl.ReadAutomaton(autText(a))
			_, isText := impl.AutomatonText(a)
			_, hasValue := impl.ValueOf(a, nil)
			_, hasRank := impl.RankOfSeries(a)
			if isRead != want || isText != want || hasValue != want || hasRank != want {
				t.Errorf("%d states and %d letters: %v, %v, %v, %v, want %v", states, letters, isRead, isText, hasValue, hasRank, want)
			}
		}
	}
	a := smallAutomaton(rand.New(rand.NewPCG(62, 2)), 6, 3)
	checkValues(t, a, [][]int64{{}, {2}, {0, 1, 2, 2, 1, 0, 0, 1, 2, 2, 1, 0}})
	checkLevels(t, a, 20)
	checkRows(t, a)
}

// Each place of an automaton can be wrong alone.
func TestAutomataOfWrongForm(t *testing.T) {
	for _, s := range []string{"", ";", "1", "1;1", "1,1;1;1", "1;1,1;1", ";1;1", "1;;1", "1,1;1,1;1", "1,1;1,1;1,1", "1,1;1,1;1,1|1,1|1,1", "1,1;1,1;1,1|1", "1,1;1,1;1|1,1", "1,1;1,1;1,1|1,1,1", "1,1;1,1;1,1|1,1;1,1", "1,1;1,1;1,1|1,1;1,1|1,1;1,1|1", "1;1;", ";;1", ";;;|", "1;1;1,", "1;1;1|", "1;1;|1", "1;1;1;1;1;1", "1;1;1;1;1;", "1;1;01", "1;1;+1", "1;1; 1", "1;-0;1", "2/4;1;1", "1;1;1/1", "x;1;1", "none;none;none", "1,;1,;1", "1;1;1;", "1.0;1;1", "1;1;1,1|1,1"} {
		a := aut(s)
		if impl.ValidAutomaton(a) || isAutomaton(a) {
			t.Errorf("%q is not valid", s)
		}
		got, ok := impl.ReadAutomaton(s)
		wantAutomaton(t, "ReadAutomaton of "+s, got, ok, "")
		text, ok := impl.AutomatonText(a)
		wantText(t, "AutomatonText of "+s, text, ok, "")
	}
	wrong := []string{"", "x", "-0", "2/4", nines(61), "1/" + nines(61)}
	for place := range 2*6 + 3*36 {
		n := 0
		a := randomAutomaton(6, 3, func() string {
			n++
			if n-1 == place {
				return wrong[place%len(wrong)]
			}
			return "1"
		})
		if impl.ValidAutomaton(a) {
			t.Errorf("%s is not valid", autText(a))
		}
		_, ok := impl.ReadAutomaton(autText(a))
		_, okSame := impl.SameSeries(chain(3, nil), a)
		if ok || okSame {
			t.Errorf("%s is read", autText(a))
		}
	}
}

func TestTextsOfAutomata(t *testing.T) {
	great := "-" + nines(60) + "/" + tenTo(59)
	for _, s := range []string{";;", ";;;", ";;;;", "1;1;1", "0;0;0", "-1;1/2;-3/4;7;0", "1,2;3,4;5,6|7,8", great + ";" + great + ";" + great, autText(randomAutomaton(6, 3, func() string { return great }))} {
		a, ok := impl.ReadAutomaton(s)
		wantAutomaton(t, "ReadAutomaton of "+s, a, ok, s)
		text, ok := impl.AutomatonText(a)
		wantText(t, "AutomatonText", text, ok, s)
		for _, other := range []string{s + ";", ";" + s, s + "|", s + ",", s + " ", " " + s, s + "\n", s + ";x"} {
			_, ok := impl.ReadAutomaton(other)
			if ok != isAutomaton(aut(other)) || ok && autText(aut(other)) != other {
				t.Errorf("ReadAutomaton of %q: got %v", other, ok)
			}
		}
	}
	textsUpTo("1,;|", 7, func(s string) {
		a, ok := impl.ReadAutomaton(s)
		want := isAutomaton(aut(s)) && autText(aut(s)) == s
		if ok != want || ok && autText(a) != s {
			t.Errorf("ReadAutomaton of %q: got %q, %v, want %v", s, autText(a), ok, want)
		}
	})
}

func TestLengthsOfWords(t *testing.T) {
	a := aut("1;1;2;3;1/5")
	for length := range 16 {
		for letter := range int64(3) {
			word := slices.Repeat([]int64{letter}, length)
			value, ok := impl.ValueOf(a, word)
			behind, okBehind := impl.BehindWord(a, word)
			if length > 12 {
				wantText(t, "ValueOf a word that is too long", value, ok, "")
				wantAutomaton(t, "BehindWord of a word that is too long", behind, okBehind, "")
				continue
			}
			want := ratOf([]string{"2", "3", "1/5"}[letter])
			power := big.NewRat(1, 1)
			for range length {
				power.Mul(power, want)
			}
			wantText(t, "ValueOf", value, ok, power.RatString())
			wantAutomaton(t, "BehindWord", behind, okBehind, power.RatString()+";1;2;3;1/5")
		}
	}
	for letters := 1; letters <= 3; letters++ {
		a := randomAutomaton(2, letters, func() string { return "1" })
		for _, letter := range []int64{math.MinInt64, -1, 0, 1, 2, 3, 4, 1 << 32, math.MaxInt64} {
			for _, word := range [][]int64{{letter}, {0, 0, letter}, {letter, 0, 0}} {
				_, ok := impl.ValueOf(a, word)
				_, okBehind := impl.BehindWord(a, word)
				if want := letter >= 0 && letter < int64(letters); ok != want || okBehind != want {
					t.Errorf("%d letters and the word %v: got %v, %v", letters, word, ok, okBehind)
				}
			}
		}
	}
}

func TestCountsOfLevels(t *testing.T) {
	a := aut("1,0;0,1;1,1|0,1;1,0|0,1")
	for _, count := range []int64{math.MinInt64, -1, 0, 1, 2, 19, 20, 21, 22, math.MaxInt64} {
		sums, ok := impl.LevelSums(a, count)
		if count < 0 || count > 20 {
			wantList(t, fmt.Sprint("LevelSums ", count), sums, ok, "")
			continue
		}
		list := []string{}
		for n := range count {
			list = append(list, fmt.Sprint(n*(1<<n)/2))
		}
		wantList(t, fmt.Sprint("LevelSums ", count), sums, ok, listText(list))
	}
}

func TestAutomataOfTheSeriesZero(t *testing.T) {
	zeros := []string{"0;1;1", "1;0;1", "0;0;0", "0,0;1,1;1,2|3,4", "1,2;0,0;1,2|3,4", "1,0;0,1;5,0|7,5", "1,-1;1,1;1,1|1,1", "1,0,0;0,0,1;1,1,0|1,1,0|1,1,1", "1,1,-2;1,1,1;0,1,0|0,0,1|1,0,0", "1,2,3,4,5,6;0,0,0,0,0,0;" + strings.Repeat("1,2,3,4,5,6|", 5) + "6,5,4,3,2,1"}
	for _, s := range zeros {
		a := aut(s)
		checkRows(t, a)
		checkLevels(t, a, 20)
		wantReduced(t, a, ";;")
		for _, other := range zeros {
			checkTelling(t, a, aut(other))
		}
		checkTelling(t, a, aut("1;2;0"))
		checkTelling(t, aut(";;"), a)
		sum, ok := impl.AddAutomata(a, aut(";;"))
		wantAutomaton(t, "AddAutomata of "+s, sum, ok, s)
	}
}

// The first word with a value other than 0 can have one letter less than there are states.
func TestFirstWordsOfChains(t *testing.T) {
	t.Parallel()
	random := rand.New(rand.NewPCG(62, 3))
	for letters := 1; letters <= letterLimit; letters++ {
		for length := range stateLimit {
			for _, path := range [][]int64{slices.Repeat([]int64{int64(letters - 1)}, length), randomWord(random, letters, length), make([]int64, length)} {
				a := chain(letters, path)
				first, ok := impl.FirstNonzero(a)
				wantWord(t, "FirstNonzero of "+autText(a), first, ok, path, true)
				words := [][]int64{}
				for end := range length + 1 {
					words = append(words, path[:end])
				}
				rows, ok := impl.RowWords(a)
				if !ok || !slices.EqualFunc(rows, words, slices.Equal[[]int64]) {
					t.Errorf("RowWords of %s: got %v, %v, want %v", autText(a), rows, ok, words)
				}
				wantReduced(t, a, autText(a))
				word, ok := impl.TellingWord(a, chain(letters, nil))
				wantWord(t, "TellingWord of "+autText(a)+" and one for the empty word", word, ok, nil, length > 0)
			}
		}
	}
}

// Words before the first one with a value other than 0 can be reached in other ways, which cancel.
func TestFirstWordsBehindValuesThatCancel(t *testing.T) {
	for _, c := range []struct {
		a    string
		want []int64
	}{
		{"1,1;1,-1;1,0|0,1;1,0|0,2", []int64{1}},
		{"1,1;1,-1;2,0|0,2;1,0|0,1;0,1|2,0", []int64{2}},
		{"1,1;1,-1;1,1|1,1;1,0|0,0", []int64{1}},
		{"1,1,0;1,-1,0;1,0,0|0,1,0|0,0,0;1,0,0|0,1,0|0,0,0;0,0,1|0,0,0|1,0,0", []int64{2, 2}},
		{"1,0,0;0,0,1;0,1,0|0,0,0|0,0,0;0,0,0|0,0,1|0,0,0", []int64{0, 1}},
		{"1,0,0;0,0,1;0,0,0|0,0,1|0,0,0;0,1,0|0,0,0|0,0,0", []int64{1, 0}},
	} {
		first, ok := impl.FirstNonzero(aut(c.a))
		wantWord(t, "FirstNonzero of "+c.a, first, ok, c.want, true)
		checkRows(t, aut(c.a))
	}
}

// Two automata can differ first at a word as long as both together allow.
func TestAutomataThatDifferLate(t *testing.T) {
	random := rand.New(rand.NewPCG(62, 4))
	for first := range stateLimit + 1 {
		for second := range stateLimit + 1 {
			if first+second == 0 {
				continue
			}
			r, s, ok := impl.Recurrence{}, impl.Recurrence{}, false
			for !ok {
				r, s, ok = parting(smallRecurrence(random, first).Coeffs, smallRecurrence(random, second).Coeffs)
			}
			a, b := recAutomaton(r), recAutomaton(s)
			word, ok := impl.TellingWord(a, b)
			wantWord(t, "TellingWord of "+autText(a)+" and "+autText(b), word, ok, make([]int64, first+second-1), true)
			for letters := 2; letters <= letterLimit; letters++ {
				other := func(a impl.Automaton) impl.Automaton {
					idle := randomAutomaton(len(a.Start), 1, func() string { return "0" }).Moves[0]
					moves := slices.Repeat([][][]string{idle}, letters-1)
					return impl.Automaton{Start: a.Start, End: a.End, Moves: append(moves, a.Moves[0])}
				}
				word, ok := impl.TellingWord(other(a), other(b))
				wantWord(t, "TellingWord with more letters", word, ok, slices.Repeat([]int64{int64(letters - 1)}, first+second-1), true)
			}
			same, ok := impl.SameSeries(a, b)
			if same || !ok {
				t.Errorf("SameSeries of %s and %s: got %v, %v", autText(a), autText(b), same, ok)
			}
		}
	}
}

func TestAutomataWithOtherAlphabets(t *testing.T) {
	for _, first := range []string{"1;1;1", "1;1;1;1", "1;1;1;1;1", ";;", ";;;", ";;;;", "1;0;1"} {
		for _, second := range []string{"1;1;1", "1;1;1;1", "1;1;1;1;1", ";;", ";;;", ";;;;"} {
			a, b := aut(first), aut(second)
			if len(a.Moves) == len(b.Moves) {
				checkTelling(t, a, b)
				continue
			}
			_, ok := impl.SameSeries(a, b)
			word, okWord := impl.TellingWord(a, b)
			sum, okSum := impl.AddAutomata(a, b)
			if ok || okWord || word != nil || okSum || len(sum.Moves) > 0 {
				t.Errorf("%s and %s have other alphabets: %v, %v, %v, %v", first, second, ok, word, okWord, okSum)
			}
		}
	}
}

func TestRowWordsThatAreNotTheFirst(t *testing.T) {
	for _, c := range []struct{ a, words, reduced string }{
		{"1,0;1,2;1,0|0,1;0,1|0,1", "[[] [1]]", "1,0;1,2;1,0|0,1;0,1|0,1"},
		{"1,0,0;0,0,1;0,0,0|0,0,0|0,0,0;0,1,0|0,0,1|0,0,0", "[[] [1] [1 1]]", ""},
		{"1,0,0,0;0,0,0,1;0,0,0,0|0,0,1,0|0,0,0,0|0,0,0,1;2,0,0,0|0,0,0,0|0,0,0,3|0,0,0,0;0,5,0,0|0,0,0,0|0,0,0,0|0,0,0,0", "[[] [2] [2 0] [2 0 1]]", ""},
		{"1,2;1,1;1,1|1,1;1,0|0,1", "[[]]", "1;3;2;1"},
		{"1,1,1;1,1,1;1,0,0|0,1,0|0,0,1;1,0,0|0,2,0|0,0,2", "[[] [1]]", ""},
		{"1,0;1,0;0,1|1,0;0,-1|1,0", "[[] [0]]", ""},
	} {
		a := aut(c.a)
		checkRows(t, a)
		words, ok := impl.RowWords(a)
		if got := fmt.Sprint(words); got != c.words || !ok {
			t.Errorf("RowWords of %s: got %s, %v, want %s", c.a, got, ok, c.words)
		}
		if c.reduced != "" {
			wantReduced(t, a, c.reduced)
		}
	}
}

// States that are never reached, from which nothing is seen, or that are multiples or sums of others.
func TestStatesThatAreNotNeeded(t *testing.T) {
	for _, c := range []struct{ a, want string }{
		{"1,0;2,3;5,0|1,1", "1;2;5"},
		{"1,1;2,0;5,7|0,1", "1;2;5"},
		{"1,0,1;2,3,0;5,0,4|1,1,6|0,0,1", "1;2;5"},
		{"1,1;2,2;3,0|0,3", "1;4;3"},
		{"1,0;2,4;3,0|0,3;0,1|0,2", "1;2;3;2"},
		{"1,1,1;1,2,3;1,0,0|0,1,0|0,0,1", "1;6;1"},
		{"0,0,1;1,1,2;2,0,0|0,3,0|2,3,0", "1,0;2,5;0,1|-6,5"},
		{"0,1;0,1;1,1|0,0", "1;1;0"},
	} {
		wantReduced(t, aut(c.a), c.want)
		checkRows(t, aut(c.a))
		same, ok := impl.SameSeries(aut(c.a), aut(c.want))
		if !same || !ok {
			t.Errorf("SameSeries of %s and %s: got %v, %v", c.a, c.want, same, ok)
		}
		wantReduced(t, aut(c.want), c.want)
	}
}

func TestSumsOfAutomataAtTheLimit(t *testing.T) {
	random := rand.New(rand.NewPCG(62, 5))
	for first := range stateLimit + 1 {
		for second := range stateLimit + 1 {
			for letters := 1; letters <= letterLimit; letters++ {
				checkOperations(t, smallAutomaton(random, first, letters), smallAutomaton(random, second, letters), "2/3")
			}
		}
	}
	sum, ok := impl.AddAutomata(aut("1,2,3;4,5,6;1,1,1|2,2,2|3,3,3"), aut("1,2,3,4;4,5,6,7;0,0,0,0|0,0,0,0|0,0,0,0|0,0,0,0"))
	wantAutomaton(t, "a sum with one state too many", sum, ok, "")
	sum, ok = impl.AddAutomata(aut("1,2;3,4;5,6|7,8"), aut("-1;-2;-3"))
	wantAutomaton(t, "a sum", sum, ok, "1,2,-1;3,4,-2;5,6,0|7,8,0|0,0,-3")
}

func TestMultiplesOfAutomata(t *testing.T) {
	a := aut("1,1/2;3,-4;5,6|7,8;0,0|0,1")
	for by, want := range map[string]string{"0": "0,0", "1": "3,-4", "-1": "-3,4", "2/3": "2,-8/3", "-1/12": "-1/4,1/3", nines(59): "2" + nines(58) + "7,-3" + nines(58) + "6", "": "", "x": "", "-0": "", "2/4": "", "1/0": "", "+1": "", nines(61): "", tenTo(59) + "0": "", nines(60): ""} {
		got, ok := impl.ScaleAutomaton(a, by)
		text := ""
		if want != "" {
			text = "1,1/2;" + want + ";5,6|7,8;0,0|0,1"
		}
		wantAutomaton(t, "ScaleAutomaton by "+by, got, ok, text)
	}
	got, ok := impl.ScaleAutomaton(aut(";;"), "x")
	wantAutomaton(t, "ScaleAutomaton without states by no number", got, ok, "")
	got, ok = impl.ScaleAutomaton(aut(";;"), "7")
	wantAutomaton(t, "ScaleAutomaton without states", got, ok, ";;")
}

func TestReversedAutomata(t *testing.T) {
	for text, want := range map[string]string{
		"1,0;0,5;1,1|0,1": "0,5;1,0;1,0|1,1",
		"1,2,3;4,5,6;1,2,3|4,5,6|7,8,9;0,1,0|0,0,1|0,0,0": "4,5,6;1,2,3;1,4,7|2,5,8|3,6,9;0,0,0|1,0,0|0,1,0",
		"1;2;3":  "2;1;3",
		";;;;":   ";;;;",
		"1,2;;1": "",
	} {
		got, ok := impl.ReverseAutomaton(aut(text))
		wantAutomaton(t, "ReverseAutomaton of "+text, got, ok, want)
		if want != "" {
			again, ok := impl.ReverseAutomaton(got)
			wantAutomaton(t, "ReverseAutomaton twice", again, ok, text)
		}
	}
}

func TestWordsBehindWhichAllIsZero(t *testing.T) {
	a := chain(2, []int64{0, 1, 1})
	behind, ok := impl.BehindWord(a, []int64{1})
	wantAutomaton(t, "BehindWord", behind, ok, "0,0,0,0;0,0,0,1;0,1,0,0|0,0,0,0|0,0,0,0|0,0,0,0;0,0,0,0|0,0,1,0|0,0,0,1|0,0,0,0")
	wantReduced(t, behind, ";;;")
	_, ok = impl.FirstNonzero(behind)
	if ok {
		t.Error("FirstNonzero behind it")
	}
	checkValues(t, a, [][]int64{{1}, {0, 0}, {0, 1, 1}, {0, 1, 1, 0}, {0, 1, 1, 1}, make([]int64, 12)})
	behind, ok = impl.BehindWord(a, []int64{0, 1})
	wantAutomaton(t, "BehindWord", behind, ok, "0,0,1,0"+strings.TrimPrefix(autText(a), "1,0,0,0"))
}
