package tests

import (
	"fmt"
	"math"
	"math/rand/v2"
	"slices"
	"strings"
	"testing"

	"loop.example/g01120/impl"
)

// Promise 8 at its edges.

// wantParts checks that an expression has the automaton that a test wants, which the oracle must confirm.
func wantParts(t *testing.T, letters int, text, want string) {
	t.Helper()
	list := parts(text)
	f, hasSeries := seriesOf(int64(letters), list)
	if found := ""; hasSeries {
		if found = reducedText(letters, len(list)+1, f); found != want {
			t.Errorf("the test wants %q for %s, which is %q", want, text, found)
		}
	}
	a, ok := impl.AutomatonOfParts(int64(letters), list)
	wantAutomaton(t, "AutomatonOfParts of "+text, a, ok, want)
}

// wantNoSeries checks that a valid expression has no series.
func wantNoSeries(t *testing.T, letters int, text string) {
	t.Helper()
	list := parts(text)
	if !impl.ValidParts(int64(letters), list) {
		t.Errorf("%s is valid", text)
	}
	_, hasSeries := seriesOf(int64(letters), list)
	a, ok := impl.AutomatonOfParts(int64(letters), list)
	if hasSeries || ok || autText(a) != ";" {
		t.Errorf("%s has no series: got %s, %v", text, autText(a), ok)
	}
	for _, word := range wordsUpTo(letters, 2) {
		value, ok := impl.ValueOfParts(int64(letters), list, word)
		wantText(t, "ValueOfParts of "+text, value, ok, "")
	}
	written, ok := impl.PartsText(int64(letters), list)
	wantText(t, "PartsText of "+text, written, ok, text)
}

func TestNumbersOfPartsAndLetters(t *testing.T) {
	for count := range 16 {
		list := append(slices.Repeat(parts("+"), max((count-1)/2, 0)), slices.Repeat(parts("a"), (count+1)/2)...)
		if count%2 == 0 && count > 0 {
			list = append(parts("!2"), append(slices.Repeat(parts("+"), (count-2)/2), slices.Repeat(parts("a"), count/2)...)...)
		}
		if len(list) != count {
			t.Fatalf("%d parts instead of %d", len(list), count)
		}
		for _, letters := range []int64{math.MinInt64, -1, 0, 1, 2, 3, 4, 5, 1 << 32, math.MaxInt64} {
			want := count >= 1 && count <= 12 && letters >= 1 && letters <= 3
			value, hasValue := impl.ValueOfParts(letters, list, []int64{0})
			a, hasAutomaton := impl.AutomatonOfParts(letters, list)
			text, isText := impl.PartsText(letters, list)
			read, isRead := impl.ReadParts(letters, partsText(list))
			if got := []bool{impl.ValidParts(letters, list), hasValue, hasAutomaton, isText, isRead}; !slices.Equal(got, slices.Repeat([]bool{want}, 5)) {
				t.Errorf("%d parts and %d letters: got %v, want %v", count, letters, got, want)
			}
			if !want && (value != "" || len(a.Moves) > 0 || text != "" || len(read) > 0) {
				t.Errorf("%d parts and %d letters: got %q, %v, %q, %v", count, letters, value, a, text, read)
			}
			if want && len(a.Moves) != int(letters) {
				t.Errorf("%d letters: got %s", letters, autText(a))
			}
		}
	}
}

func TestPartsOfWrongForm(t *testing.T) {
	for _, s := range []string{"", "+", ".", "*", "!2", "+ a", ". a", "+ + a a", "* *", "a a", "1 1", "* a a", "+ a a a", "!2 a a", ". a a +", "a +", "1 *", "d", "a1", "+1 a a", ".0 a a", "*1 a", "! a", "!x a", "!2/4 a", "!-0 a", "x", "01", "+1", "2/4", "1/0", nines(61), "!" + nines(61) + " a", "* d", "+ a d", "+ d a"} {
		list := parts(s)
		for letters := range int64(5) {
			if impl.ValidParts(letters, list) || isExpression(letters, list) {
				t.Errorf("%q is not valid", s)
			}
		}
	}
	for letter := range int64(5) {
		for letters := range int64(6) {
			if got := impl.ValidParts(letters, []impl.Part{{Kind: 1, Letter: letter}}); got != (letters <= 3 && letter < letters) {
				t.Errorf("the letter %d of %d: got %v", letter, letters, got)
			}
		}
	}
	behind := parts("a a")
	for kind := int64(-2); kind < 9; kind++ {
		for _, letter := range []int64{math.MinInt64, -1, 0, 1, 2, 3, math.MaxInt64} {
			for _, number := range []string{"", "0", "1", "-1/2", "x", " ", nines(60), nines(61)} {
				for count := range 3 {
					list := append([]impl.Part{{Kind: kind, Letter: letter, Number: number}}, behind[:count]...)
					got, want := impl.ValidParts(2, list), isExpression(2, list)
					_, hasText := impl.PartsText(2, list)
					_, hasAutomaton := impl.AutomatonOfParts(2, list)
					value, hasValue := impl.ValueOfParts(2, list, nil)
					if got != want || hasText != want || hasAutomaton != want || hasValue != want || hasValue != (value != "") {
						t.Errorf("%v: got %v, %v, %v, %v, want %v", list, got, hasText, hasAutomaton, hasValue, want)
					}
				}
			}
		}
	}
	for _, kind := range []int64{math.MinInt64, math.MaxInt64, 1 << 32, 1<<32 + 1, -1 << 32, 6} {
		if impl.ValidParts(1, []impl.Part{{Kind: kind}}) || impl.ValidParts(1, []impl.Part{{Kind: kind, Number: "1"}}) {
			t.Errorf("there is no kind %d", kind)
		}
	}
}

func TestTextsOfExpressions(t *testing.T) {
	great := "-" + nines(60) + "/" + tenTo(59)
	for _, s := range []string{"0", "1", "-1", "-1/2", great, "a", "b", "c", "+ a b", ". a -1/2", "* c", "!0 a", "!1 a", "!-1 a", "!1/2 a", "!-3/4 * b", "!" + great + " c", "* + a + b c", "+ + + + + a b c a b 1", "!2 !3 !4 !5 !6 !7 !8 !9 !10 !11 !12 a"} {
		list, ok := impl.ReadParts(3, s)
		if !ok || !slices.Equal(list, parts(s)) {
			t.Errorf("ReadParts of %q: got %v, %v", s, list, ok)
		}
		text, ok := impl.PartsText(3, list)
		wantText(t, "PartsText", text, ok, s)
		for _, other := range []string{s + " ", " " + s, s + "\n", s + " 1", "1 " + s, strings.Replace(s, " ", "  ", 1), strings.Replace(s, " ", "\t", 1), strings.ReplaceAll(s, " ", ""), s + "x", "x" + s, "+" + s, strings.ToUpper(s), strings.Replace(s, "!", "! ", 1), strings.Replace(s, "!", "!+", 1), strings.Replace(s, "!", "!!", 1)} {
			if _, ok := impl.ReadParts(3, other); ok && other != s && !isExpression(3, parts(other)) {
				t.Errorf("ReadParts reads %q", other)
			}
		}
	}
	for _, s := range []string{"", " ", "  ", "+ a", "+ a ", "+ a  b", "+  a b", " + a b", "+ a b ", "+ a b\n", "+a b", "+ ab", "ab", "d", "A", "! a", "!", "!a", "!+1 a", "! 1 a", "!1", "!1a", "!01 a", "!1/1 a", "!-0 a", "!2/4 a", "!1/-2 a", "!1 a b", "+1", "-", "* 1 1", "**a", "* * ", "×", "\xff", "a\x00", "none", "1,2", "." + " a", "a b +", "1.5", "x"} {
		list, ok := impl.ReadParts(3, s)
		if ok || len(list) > 0 {
			t.Errorf("ReadParts of %q: got %v, %v", s, list, ok)
		}
	}
	for letters := range 4 {
		for letter, name := range []string{"a", "b", "c"} {
			if _, ok := impl.ReadParts(int64(letters), name); ok != (letter < letters) {
				t.Errorf("ReadParts of %s over %d letters: got %v", name, letters, ok)
			}
		}
	}
	textsUpTo("a1+*! ", 6, func(s string) {
		list, ok := impl.ReadParts(1, s)
		words := partsOf(s, " ")
		want := len(words) > 0 && !slices.Contains(words, "") && isExpression(1, parts(s))
		if ok != want || ok && partsText(list) != s {
			t.Errorf("ReadParts of %q: got %v, %v, want %v", s, list, ok, want)
		}
	})
}

func TestWordsOfExpressions(t *testing.T) {
	list := parts("* + !2 a + !3 b !1/5 c")
	for length := range 16 {
		word := slices.Repeat([]int64{1}, length)
		if length > 12 {
			value, ok := impl.ValueOfParts(3, list, word)
			wantText(t, "a word that is too long", value, ok, "")
			continue
		}
		checkPartValues(t, 3, list, [][]int64{word, slices.Repeat([]int64{2}, length)})
	}
	for letters := int64(1); letters <= 3; letters++ {
		for _, letter := range []int64{math.MinInt64, -1, 0, 1, 2, 3, 4, 1 << 32, math.MaxInt64} {
			for _, word := range [][]int64{{letter}, {0, letter}, {letter, 0}} {
				_, ok := impl.ValueOfParts(letters, parts("* a"), word)
				if want := letter >= 0 && letter < letters; ok != want {
					t.Errorf("%d letters and the word %v: got %v", letters, word, ok)
				}
			}
		}
	}
}

func TestTheEmptyWordInExpressions(t *testing.T) {
	t.Parallel()
	for text, want := range map[string]string{
		"0": ";;", "5": "1;5;0", "-1/2": "1;-1/2;0", "a": "1,0;0,1;0,1|0,0", "+ 1 -1": ";;", "+ 1 a": "1,0;1,1;0,1|0,0", "+ 0 0": ";;", "+ 0 a": "1,0;0,1;0,1|0,0",
		". 2 3": "1;6;0", ". 2 a": "1,0;0,2;0,1|0,0", ". a 2": "1,0;0,2;0,1|0,0", ". a a": "1,0,0;0,0,1;0,1,0|0,0,1|0,0,0", ". 0 a": ";;", ". a 0": ";;", ". 0 0": ";;", ". + 1 -1 a": ";;",
		". * a * a": "1,0;1,2;0,1|-1,2", ". + 1 a + 1 !-1 a": "1,0,0;1,0,-1;0,1,0|0,0,1|0,0,0", ". * a + 1 !-1 a": "1;1;0",
		"!0 a": ";;", "!0 * a": ";;", "!0 5": ";;", "!1 a": "1,0;0,1;0,1|0,0", "!-2/3 a": "1,0;0,-2/3;0,1|0,0", "!7 0": ";;", "!1/2 * a": "1;1/2;1", "!-1 -1": "1;1;0",
		"* 0": "1;1;0", "* a": "1;1;1", "* !0 1": "1;1;0", "* !0 a": "1;1;0", "* . 0 1": "1;1;0", "* + a !-1 a": "1;1;0", "* !0 * a": "1;1;0", "* . 0 * a": "1;1;0",
		"* + 1 -1": "1;1;0", "* + 1 + a -1": "1;1;1", "* + . 2 3 + a -6": "1;1;1", "* + * a -1": "1,0;1,1;0,1|0,2", "* . a * a": "1,0;1,1;0,1|0,2", "* . + 1 -1 * a": "1;1;0",
		"* !-1 a": "1;1;-1", "* !1/2 a": "1;1;1/2", "* + a . a a": "1,0;1,1;0,1|1,1", "* + -1 * + -1 * a": "1,0;1,1;0,1|0,3",
	} {
		wantParts(t, 1, text, want)
		checkParts(t, 1, parts(text), append(wordsUpTo(1, 4), make([]int64, 12)))
		checkParts(t, 2, parts(text), wordsUpTo(2, 3))
		checkParts(t, 3, parts(text), wordsUpTo(3, 2))
	}
}

func TestStarsWithoutSeries(t *testing.T) {
	for _, text := range []string{"* 1", "* -1/7", "* * a", "* * 0", "* + a 1", "* . 2 3", "* . * a * a", "* !2 * a", "* + * a 1", ". 0 * 1", ". * 1 0", "!0 * 1", "+ a !0 * * a", "* . 0 * 1", "+ * 1 !-1 * 1", "* !0 * 1", ". * a * * a", "* . a * 1", "!0 !0 !0 * 5", ". . 0 0 * + 1 1", "* + -1 * + 1 * a"} {
		wantNoSeries(t, 1, text)
		wantNoSeries(t, 3, text)
	}
}

func TestExpressionsAtTheLimitOfStates(t *testing.T) {
	t.Parallel()
	power := func(count int) string {
		return strings.TrimSpace(strings.Repeat(". ", count-1) + strings.Repeat("a ", count))
	}
	for count := 1; count <= 6; count++ {
		list := parts(power(count))
		checkParts(t, 1, list, [][]int64{{}, make([]int64, count), make([]int64, 12)})
		a, ok := impl.AutomatonOfParts(3, list)
		if ok != (count <= 5) || ok && len(a.Start) != count+1 {
			t.Errorf("the power %d: got %s, %v", count, autText(a), ok)
		}
		value, ok := impl.ValueOfParts(3, list, make([]int64, count))
		wantText(t, "value of a power", value, ok, "1")
	}
	for text, want := range map[string]string{
		"!0 " + power(6):            ";;",
		". . . . . a a a a a 0":     ";;",
		". 0 . . . . a a a a a":     ";;",
		"+ . . a a a !-1 . . a a a": ";;",
		"* . a . a . a . a a":       "1,0,0,0,0;1,0,0,0,0;0,1,0,0,0|0,0,1,0,0|0,0,0,1,0|0,0,0,0,1|1,0,0,0,0",
		"* . . . . . a a a a a a":   "1,0,0,0,0,0;1,0,0,0,0,0;0,1,0,0,0,0|0,0,1,0,0,0|0,0,0,1,0,0|0,0,0,0,1,0|0,0,0,0,0,1|1,0,0,0,0,0",
		". * a . * a . * a * a":     "1,0,0,0;1,4,10,20;0,1,0,0|0,0,1,0|0,0,0,1|-1,4,-6,4",
		"+ a + . a a + a . a a":     "1,0,0;0,2,2;0,1,0|0,0,1|0,0,0",
		". * a + 1 . !-1 a * . 0 a": "1;1;0",
		". . a a * . . . a a a a":   "1,0,0,0;0,0,1,0;0,1,0,0|0,0,1,0|0,0,0,1|1,0,0,0",
		"+ * . a a * . . a a a":     "1,0,0,0;2,0,1,1;0,1,0,0|0,0,1,0|0,0,0,1|1,1,0,-1",
		". * a . * !2 a * !3 a":     "1,0,0;1,6,25;0,1,0|0,0,1|6,-11,6",
	} {
		wantParts(t, 1, text, want)
		checkParts(t, 1, parts(text), wordsUpTo(1, 12))
	}
	for _, text := range []string{". . . . a b a b a", ". . . . . a b a b a b", "* . . . . . a b a b a b", "* . . . . a b a b a", "* + . a b . b a", "+ . . a b a !-1 . . a b a", ". + a b . + a b + a b", "* . . a * b . b b", ". * + a b . a * + a b", "+ . a b + . b a . a a", ". . + a b + a b + a b"} {
		checkParts(t, 2, parts(text), [][]int64{{}, {0, 1, 0, 1, 0}, {0, 1, 0, 1, 0, 1}, {1, 0, 1}, {0, 1, 0, 1, 0, 1, 0, 1, 0, 1, 0, 1}})
	}
	for _, text := range []string{"+ a + b c", ". a . b c", "* . a . b c", "* + a + b c", "+ . a b . b c", "+ . a b + . b c . c a", "+ * a + * b * c"} {
		checkParts(t, 3, parts(text), [][]int64{{}, {0, 1, 2}, {2}, {1, 2, 0}, {0, 1, 2, 0, 1, 2, 0, 1, 2, 0, 1, 2}})
	}
}

// Automata

// statelessAutomata are those without states.
func statelessAutomata(letters int) []impl.Automaton {
	return []impl.Automaton{aut(";" + strings.Repeat(";", letters)), {Moves: make([][][]string, letters)}, {Start: []string{}, End: []string{}, Moves: slices.Repeat([][][]string{{}}, letters)}}
}

func TestSeriesOfAutomataWithoutStates(t *testing.T) {
	random := rand.New(rand.NewPCG(72, 1))
	for letters := 1; letters <= letterLimit; letters++ {
		idle := strings.Repeat(";", letters)
		for _, a := range statelessAutomata(letters) {
			for _, b := range []impl.Automaton{a, smallAutomaton(random, 6, letters), smallAutomaton(random, 1, letters)} {
				for _, operation := range []func(a, b impl.Automaton) (impl.Automaton, bool){impl.ConcatAutomata, impl.HadamardAutomata} {
					got, ok := operation(a, b)
					wantAutomaton(t, "nothing and "+autText(b), got, ok, ";"+idle)
					got, ok = operation(b, a)
					wantAutomaton(t, autText(b)+" and nothing", got, ok, ";"+idle)
				}
			}
			star, ok := impl.StarAutomaton(a)
			wantAutomaton(t, "StarAutomaton of nothing", star, ok, "1;1"+strings.Repeat(";0", letters))
			for length := range 14 {
				table, ok := impl.TableOf(a, int64(length))
				if fits := length <= []int{0, 12, 6, 4}[letters]; ok != fits || fits && !slices.Equal(table, copies("0", tableSize(letters, length))) {
					t.Errorf("TableOf nothing with the length %d: got %q, %v", length, table, ok)
				}
				if !ok {
					continue
				}
				learned, ok := impl.LearnFrom(int64(letters), int64(length), table)
				want := ";" + idle
				if length == 0 {
					want = ""
				}
				wantAutomaton(t, "LearnFrom zeros", learned, ok, want)
			}
			checkLengths(t, a)
		}
	}
	r, ok := impl.RecurrenceOfAutomaton(aut(";;"))
	wantRecurrence(t, "RecurrenceOfAutomaton of nothing", r, ok, "none;none")
	a, ok := impl.AutomatonOfRecurrence(rec("none;none"))
	wantAutomaton(t, "AutomatonOfRecurrence of zeros", a, ok, ";;")
}

// zeroSeries are automata with states all of whose values are 0, for 1, 2 and 3 letters.
var zeroSeries = [][]string{{}, {"0;1;1", "1;0;1", "1,-1;1,1;1,1|1,1", "1,0;0,1;5,0|7,5", "0,0,1,0,0,0;1,1,0,0,0,0;1,1,0,0,0,0|0,1,1,0,0,0|0,0,0,1,0,0|0,0,0,0,1,0|0,0,0,0,0,1|0,0,1,1,1,1"}, {"0;0;0;0", "1,-1;1,1;1,1|1,1;2,0|0,2"}, {"1;0;1;2;3", "1,0;0,1;1,0|0,1;2,0|0,2;3,0|0,3"}}

func TestSeriesThatAreZero(t *testing.T) {
	random := rand.New(rand.NewPCG(72, 2))
	for letters := 1; letters <= letterLimit; letters++ {
		for _, s := range zeroSeries[letters] {
			a := aut(s)
			for _, b := range []impl.Automaton{a, smallAutomaton(random, 6, letters), smallAutomaton(random, 2, letters), aut("1;1" + strings.Repeat(";1", letters))} {
				for _, operation := range []func(a, b impl.Automaton) (impl.Automaton, bool){impl.ConcatAutomata, impl.HadamardAutomata} {
					got, ok := operation(a, b)
					wantAutomaton(t, s+" and "+autText(b), got, ok, ";"+strings.Repeat(";", letters))
					got, ok = operation(b, a)
					wantAutomaton(t, autText(b)+" and "+s, got, ok, ";"+strings.Repeat(";", letters))
				}
			}
			star, ok := impl.StarAutomaton(a)
			wantAutomaton(t, "StarAutomaton of "+s, star, ok, "1;1"+strings.Repeat(";0", letters))
			checkTable(t, a, 4)
			checkLengths(t, a)
		}
	}
}

func TestStarsOfAutomata(t *testing.T) {
	for text, want := range map[string]string{
		"1;1;1": "", "1;1;0": "", "1,1;1,0;0,1|0,0": "", "1;-1/7;2": "",
		"1,0;0,1;0,1|0,0": "1;1;1", "1,0;0,-1/2;0,1|0,0": "1;1;-1/2", "1,-1;1,1;1,0|0,2": "1,0,0;1,-1,-2;0,1,0|0,0,1|0,-2,2",
		"1,0;0,1;1,1|0,1": "1,0,0;1,1,3;0,1,0|0,0,1|0,-1,3", "1,1;1,-1;1,0|0,1": "1;1;0",
		"1,0;0,1;0,1|0,0;0,2|0,0": "1;1;1;2", "1,0;0,1;0,1|0,0;0,0|0,0;0,3|0,0": "1;1;1;0;3",
	} {
		got, ok := impl.StarAutomaton(aut(text))
		wantAutomaton(t, "StarAutomaton of "+text, got, ok, want)
		checkStar(t, aut(text))
	}
	// A star has at most one state more than what is behind it, and this can be one too many.
	for length := 1; length <= 5; length++ {
		for letters := 1; letters <= 2; letters++ {
			a := chain(letters, slices.Repeat([]int64{int64(letters - 1)}, length))
			checkStar(t, a)
			star, ok := impl.StarAutomaton(a)
			if !ok || len(star.Start) != length {
				t.Errorf("StarAutomaton of %s: got %s, %v", autText(a), autText(star), ok)
			}
		}
	}
	random := rand.New(rand.NewPCG(72, 3))
	most := 0
	for range 30 {
		r := smallRecurrence(random, 6)
		r.Start[0] = "0"
		a := recAutomaton(r)
		checkStar(t, a)
		if star, ok := impl.StarAutomaton(a); !ok {
			most++
		} else if len(star.Start) > 6 {
			t.Errorf("StarAutomaton of %s has %d states", autText(a), len(star.Start))
		}
	}
	if most == 0 {
		t.Error("no star has seven states")
	}
}

func TestProductsAtTheLimitOfStates(t *testing.T) {
	t.Parallel()
	random := rand.New(rand.NewPCG(72, 4))
	for first := range stateLimit + 1 {
		for second := range stateLimit + 1 {
			a, b := recAutomaton(smallRecurrence(random, first)), recAutomaton(smallRecurrence(random, second))
			checkProducts(t, a, b)
			checkProducts(t, chain(1, make([]int64, max(first-1, 0))), chain(1, make([]int64, max(second-1, 0))))
		}
	}
	for _, c := range []struct{ a, b, concat, wordwise string }{
		{"1;1;2", "1;1;3", "1,0;1,5;0,1|-6,5", "1;1;6"},
		{"1;1;1", "1;1;1", "1,0;1,2;0,1|-1,2", "1;1;1"},
		{"1,0;0,1;1,1|0,1", "1,0;0,1;0,1|0,0", "1,0,0;0,0,1;0,1,0|0,0,1|0,-1,2", "1,0;0,1;0,1|0,0"},
		{"1,0;1,0;0,1|1,0", "1,0;0,1;0,1|1,0", "1,0,0,0;0,1,0,2;0,1,0,0|0,0,1,0|0,0,0,1|-1,0,2,0", ";;"},
		{"1;2;0", "1;3;0", "1;6;0", "1;6;0"},
		{"1;1;1", "1;1;1;1", "", ""}, {"1;1;1;1", "1;1;1", "", ""}, {";;", ";;;", "", ""}, {"1;1;1;1", "1;1;1;1;1", "", ""}, {"1;1", "1;1;1", "", ""}, {"1;1;1", "1;1;x", "", ""},
	} {
		got, ok := impl.ConcatAutomata(aut(c.a), aut(c.b))
		wantAutomaton(t, "ConcatAutomata of "+c.a+" and "+c.b, got, ok, c.concat)
		got, ok = impl.HadamardAutomata(aut(c.a), aut(c.b))
		wantAutomaton(t, "HadamardAutomata of "+c.a+" and "+c.b, got, ok, c.wordwise)
	}
}

// Products have up to 36 states on the way, of which none may be needed.
func TestProductsOfGreatAutomataWithFewStates(t *testing.T) {
	t.Parallel()
	random := rand.New(rand.NewPCG(72, 5))
	for letters := 2; letters <= letterLimit; letters++ {
		// One has values for words that begin with the letter 0, the other one for those that begin with the last letter.
		begins := func(first int) impl.Automaton {
			a := smallAutomaton(random, 6, letters)
			a.Start = []string{"1", "0", "0", "0", "0", "0"}
			a.End[0] = "0"
			for letter, move := range a.Moves {
				for i := range move {
					move[i][0] = "0"
					move[i][1+(i+letter)%5] = "1"
				}
				if letter != first {
					move[0] = copies("0", 6)
				}
			}
			return a
		}
		a, b := begins(0), begins(letters-1)
		got, ok := impl.HadamardAutomata(a, b)
		wantAutomaton(t, "HadamardAutomata of two that have no word in common", got, ok, ";"+strings.Repeat(";", letters))
		got, ok = impl.HadamardAutomata(a, aut("1,0;0,1;0,1|0,0"+strings.Repeat(";0,1|0,0", letters-1)))
		value, _ := impl.ValueOf(a, []int64{0})
		want := "1,0;0," + value + ";0,1|0,0" + strings.Repeat(";0,0|0,0", letters-1)
		if value == "0" {
			want = ";" + strings.Repeat(";", letters)
		}
		wantAutomaton(t, "HadamardAutomata with one letter", got, ok, want)
		got, ok = impl.ConcatAutomata(a, b)
		wantAutomaton(t, "ConcatAutomata with too many states", got, ok, "")
		product, ok := impl.HadamardAutomata(a, a)
		if ok && len(product.Start) > 6 {
			t.Errorf("HadamardAutomata has %d states", len(product.Start))
		}
	}
	// Values 0 but for one word with ten letters need more states than there may be.
	long := chain(2, []int64{0, 1, 0, 1, 0})
	got, ok := impl.ConcatAutomata(long, long)
	wantAutomaton(t, "ConcatAutomata for one long word", got, ok, "")
	got, ok = impl.HadamardAutomata(long, long)
	wantAutomaton(t, "HadamardAutomata for one word", got, ok, autText(long))
	got, ok = impl.ConcatAutomata(long, aut("1;7;0;0"))
	wantAutomaton(t, "ConcatAutomata with the empty word", got, ok, strings.Replace(autText(long), ";0,0,0,0,0,1;", ";0,0,0,0,0,7;", 1))
}

// Tables

func TestLengthsOfTables(t *testing.T) {
	lengths := []int64{math.MinInt64, -1, 0, 1, 2, 3, 4, 5, 6, 7, 11, 12, 13, 128, 129, 130, 131, 1 << 32, math.MaxInt64}
	longest := []int64{0, 12, 6, 4}
	for letters := 1; letters <= letterLimit; letters++ {
		a := aut("2;1" + strings.Repeat(";1", letters))
		for _, length := range lengths {
			table, ok := impl.TableOf(a, length)
			if length < 0 || length > longest[letters] {
				if ok || len(table) > 0 {
					t.Errorf("TableOf the length %d for %d letters: got %q", length, letters, table)
				}
				continue
			}
			if want := copies("2", tableSize(letters, int(length))); !ok || !slices.Equal(table, want) {
				t.Errorf("TableOf the length %d for %d letters: got %q, %v", length, letters, table, ok)
			}
		}
	}
	for letters := int64(-1); letters < 6; letters++ {
		for _, length := range lengths {
			for _, size := range []int{0, 1, 2, 3, 4, 5, 7, 12, 13, 14, 15, 31, 40, 63, 85, 121, 127, 129, 130, 131, 255, 364} {
				learned, ok := impl.LearnFrom(letters, length, copies("2", size))
				want := letters >= 1 && letters <= 3 && length >= 1 && length <= longest[max(min(letters, 3), 0)] && size == tableSize(int(letters), int(length))
				if ok != want {
					t.Errorf("LearnFrom %d values for %d letters and the length %d: got %v", size, letters, length, ok)
				}
				text := ""
				if want {
					text = "1;2" + strings.Repeat(";1", int(letters))
				}
				wantAutomaton(t, fmt.Sprint("LearnFrom ", size, " values"), learned, ok, text)
			}
		}
	}
	for _, c := range []int64{math.MinInt64, math.MaxInt64, 1 << 32, 1<<32 + 1} {
		learned, ok := impl.LearnFrom(c, 1, copies("2", 2))
		wantAutomaton(t, fmt.Sprint("LearnFrom for ", c, " letters"), learned, ok, "")
	}
}

func TestOrderOfTables(t *testing.T) {
	// Each value tells the letters of its word.
	a := aut("1,0;0,1;1,1|0,10;1,2|0,10;1,3|0,10")
	for length, want := range []string{"0", "0,1,2,3", "0,1,2,3,11,12,13,21,22,23,31,32,33"} {
		table, ok := impl.TableOf(a, int64(length))
		wantList(t, "TableOf", table, ok, want)
	}
	table, ok := impl.TableOf(aut("1;3;2"), 4)
	wantList(t, "TableOf", table, ok, "3,6,12,24,48")
	table, ok = impl.TableOf(aut("1;3;2;-1/2"), 2)
	wantList(t, "TableOf", table, ok, "3,6,-3/2,12,-3,-3,3/4")
}

func TestWhatTablesTell(t *testing.T) {
	for _, c := range []struct {
		letters, length int
		table, want     string
	}{
		{1, 1, "0,0", ";;"}, {1, 1, "1,2", "1;1;2"}, {1, 1, "1,0", "1;1;0"}, {1, 1, "0,1", ""}, {1, 1, "2,-3", "1;2;-3/2"},
		{1, 2, "1,2,4", "1;1;2"}, {1, 2, "1,2,5", ""}, {1, 2, "0,0,1", ""}, {1, 2, "0,0,0", ";;"}, {1, 2, "0,1,0", ""}, {1, 2, "3,0,0", "1;3;0"},
		{1, 3, "0,1,1,2", "1,0;0,1;0,1|1,1"}, {1, 3, "1,2,4,8", "1;1;2"}, {1, 3, "1,2,4,9", ""}, {1, 3, "0,0,0,1", ""}, {1, 3, "0,0,1,0", ""}, {1, 3, "0,1,0,0", "1,0;0,1;0,1|0,0"}, {1, 3, "1,0,0,0", "1;1;0"}, {1, 3, "1,1,1,2", ""},
		{1, 4, "0,1,1,2,3", "1,0;0,1;0,1|1,1"}, {1, 4, "0,1,1,2,4", ""}, {1, 4, "1,2,4,8,17", ""},
		{1, 5, "0,0,1,0,0,0", "1,0,0;0,0,1;0,1,0|0,0,1|0,0,0"}, {1, 5, "0,0,0,1,0,0", ""}, {1, 5, "1,1,1,1,1,2", ""}, {1, 5, "0,1,1,2,3,6", ""},
		{2, 1, "1,2,3", "1;1;2;3"}, {2, 1, "0,1,0", ""}, {2, 2, "1,2,3,4,6,6,9", "1;1;2;3"}, {2, 2, "1,2,3,4,6,6,8", ""}, {2, 2, "1,2,3,4,6,5,9", ""}, {2, 2, "0,0,0,0,0,0,0", ";;;"}, {2, 2, "0,0,0,0,0,0,1", ""},
		{3, 1, "1,2,3,4", "1;1;2;3;4"}, {3, 2, "1,0,0,0,0,0,0,0,0,0,0,0,0", "1;1;0;0;0"}, {3, 1, "0,0,0,0", ";;;;"}, {3, 1, "0,0,0,1", ""},
	} {
		table := listFrom(c.table)
		checkLearned(t, c.letters, c.length, table)
		got, ok := impl.LearnFrom(int64(c.letters), int64(c.length), table)
		wantAutomaton(t, fmt.Sprintf("LearnFrom %s for %d letters", c.table, c.letters), got, ok, c.want)
	}
}

func TestAllSmallTables(t *testing.T) {
	t.Parallel()
	for _, c := range []struct{ letters, length, size int }{{1, 1, 2}, {1, 2, 3}, {1, 3, 4}, {1, 4, 5}, {1, 5, 6}, {1, 6, 7}, {2, 1, 3}, {2, 2, 7}, {3, 1, 4}} {
		for code := range 1 << (2 * min(c.size, 6)) {
			table := copies("0", c.size)
			for i := range min(c.size, 6) {
				table[c.size-1-i] = []string{"0", "1", "2", "-1"}[code>>(2*i)&3]
			}
			checkLearned(t, c.letters, c.length, table)
		}
	}
}

// The base can have words whose beginnings are not in it: rows are short.
func TestTablesWithRowsThatAreNotShortEnough(t *testing.T) {
	t.Parallel()
	random := rand.New(rand.NewPCG(72, 6))
	for range 300 {
		letters, length := 2, 5+random.IntN(2)
		table := copies("0", tableSize(letters, length))
		for range random.IntN(4) + 1 {
			table[random.IntN(len(table))] = "1"
		}
		checkLearned(t, letters, length, table)
		line := copies("0", 13)
		for range random.IntN(3) + 1 {
			line[random.IntN(13)] = "1"
		}
		checkLearned(t, 1, 12, line)
		checkLearned(t, 1, 11, line[:12])
	}
	table := copies("0", 31)
	table[0], table[3] = "1", "0"
	table[7], table[15] = "1", "1"
	checkLearned(t, 2, 4, table)
}

func TestTablesThatAreWrongAtOnePlace(t *testing.T) {
	t.Parallel()
	for _, text := range []string{"1;1;2", "1,0;0,1;0,1|1,1", "1;1;2;3", "1,0;0,1;1,1|0,1;1,0|0,1", "1;1;1;2;3", "1,0,0;0,1,5;0,1,0|0,0,1|1,0,0"} {
		a := aut(text)
		letters := len(a.Moves)
		for length := 1; length <= []int{0, 12, 6, 4}[letters]; length++ {
			table, _ := impl.TableOf(a, int64(length))
			checkTable(t, a, length)
			for place := range table {
				wrong := slices.Clone(table)
				wrong[place] = "77/3"
				if len(table) < 50 || place%9 == 0 || place == len(table)-1 {
					checkLearned(t, letters, length, wrong)
				}
			}
		}
	}
	// The last value alone is wrong, and nothing else shows it.
	for letters, length := range map[int]int{1: 12, 2: 6, 3: 4} {
		for short := 2; short <= length; short += 2 {
			table := copies("1", tableSize(letters, short))
			table[len(table)-1] = "2"
			got, ok := impl.LearnFrom(int64(letters), int64(short), table)
			wantAutomaton(t, "LearnFrom a table with a wrong last value", got, ok, "")
		}
	}
}

func TestTablesWithTextsThatAreNoNumbers(t *testing.T) {
	for _, wrong := range []string{"", "x", "-0", "2/4", "1/0", "+1", " 1", nines(61), "none", "\xff"} {
		for place := range 7 {
			table := copies("1", 7)
			table[place] = wrong
			got, ok := impl.LearnFrom(2, 2, table)
			wantAutomaton(t, fmt.Sprintf("LearnFrom %q", table), got, ok, "")
		}
	}
}

func TestTablesWithTooManyStates(t *testing.T) {
	// Seven words with up to two letters have short rows that are independent of each other.
	random := rand.New(rand.NewPCG(72, 7))
	for _, length := range []int{5, 6} {
		table := []string{}
		for range tableSize(2, length) {
			table = append(table, fmt.Sprint(random.IntN(100)))
		}
		checkLearned(t, 2, length, table)
		got, ok := impl.LearnFrom(2, int64(length), table)
		wantAutomaton(t, "LearnFrom random values", got, ok, "")
	}
	// Ranks that tables are too short for, and ranks for which they are just long enough.
	for states := 1; states <= stateLimit; states++ {
		for length := 1; length <= 12; length++ {
			a := chain(1, make([]int64, states-1))
			checkTable(t, a, length)
			table, _ := impl.TableOf(a, int64(length))
			_, ok := impl.LearnFrom(1, int64(length), table)
			if want := states <= (length-1)/2+1 || length < states-1; ok != want {
				t.Errorf("a chain of %d states and words with up to %d letters: got %v", states, length, ok)
			}
		}
	}
	for letters := 2; letters <= letterLimit; letters++ {
		for states := 1; states <= stateLimit; states++ {
			checkTable(t, chain(letters, slices.Repeat([]int64{int64(letters - 1)}, states-1)), []int{0, 0, 6, 4}[letters])
		}
	}
}

// Recurrences

func TestRecurrencesAtTheLimitOfStates(t *testing.T) {
	random := rand.New(rand.NewPCG(72, 8))
	for order := range orderLimit + 1 {
		r := smallRecurrence(random, order)
		for recText(r) != minimalText(r) || order > 1 && r.Coeffs[order-1] == "0" {
			r = smallRecurrence(random, order)
		}
		checkOneLetter(t, r)
		a, ok := impl.AutomatonOfRecurrence(r)
		if ok != (order <= 6) || len(a.Start) != order*min(1, max(0, 7-order)) {
			t.Errorf("AutomatonOfRecurrence of %s: got %s, %v", recText(r), autText(a), ok)
		}
		for _, factor := range [][]string{{"1"}, {"-2"}, {"0", "1"}, {"1", "1"}} {
			if higher, ok := longer(r, factor); ok {
				checkOneLetter(t, higher)
			}
		}
	}
	for text, want := range map[string]string{
		"none;none": ";;", "0;0": ";;", "0;5": ";;", "5;0": "1;5;0", "1;2": "1;1;2", "0,1;1,1": "1,0;0,1;0,1|1,1", "1,2;2,0": "1;1;2", "1,2;0,0": "1,0;1,2;0,1|0,0", "1,2,4;0,0,0": "1,0,0;1,2,4;0,1,0|0,0,1|0,0,0",
		"1,2,4,8,16,32,64,128;2,0,0,0,0,0,0,0": "1;1;2", "0,0,0,0,0,0,0,0;1,1,1,1,1,1,1,1": ";;", "0,0,0,0,0,1;0,0,0,0,0,0": "1,0,0,0,0,0;0,0,0,0,0,1;0,1,0,0,0,0|0,0,1,0,0,0|0,0,0,1,0,0|0,0,0,0,1,0|0,0,0,0,0,1|0,0,0,0,0,0",
		"0,0,0,0,0,0,1;0,0,0,0,0,0,0": "", "0,0,0,0,0,0,0,1;1,0,0,0,0,0,0,0": "", "1,1;1": "", "1;1,1": "", "x;1": "", "1;x": "", "1/2;-1/3": "1;1/2;-1/3",
		"1,2,3,4,5,6,7,8,9;1,2,3,4,5,6,7,8,9": "",
	} {
		a, ok := impl.AutomatonOfRecurrence(rec(text))
		wantAutomaton(t, "AutomatonOfRecurrence of "+text, a, ok, want)
		if isRecurrence(rec(text)) {
			checkOneLetter(t, rec(text))
		}
	}
}

func TestRecurrencesOfAutomata(t *testing.T) {
	for _, c := range []struct{ a, values, levels string }{
		{";;", "none;none", "none;none"}, {";;;", "", "none;none"}, {";;;;", "", "none;none"}, {"1;1;2", "1;2", "1;2"}, {"1;1;1;1", "", "1;2"}, {"1;1;1;1;1", "", "1;3"}, {"1;1;1;-1", "", "1;0"}, {"1;0;1", "none;none", "none;none"}, {"2;-1/2;0", "-1;0", "-1;0"},
		{"1,0;0,1;0,1|1,1", "0,1;1,1", "0,1;1,1"}, {"1,0;0,1;1,1|0,1;1,0|0,1", "", "0,1;4,-4"}, {"1,1;1,-1;2,0|0,2", "none;none", "none;none"}, {"1,0;1,0;0,1|0,0;0,0|1,0", "", "1,0;0,1"},
		{"1,0;0,1;0,1|0,0;0,2|0,0;0,-3|0,0", "", "none;none"}, {"1;1;1/2;1/3;1/6", "", "1;1"},
		{"1;1", "", ""}, {"1;1;1;1;1;1", "", ""}, {"x;1;1", "", ""}, {"1,2;1;1", "", ""},
	} {
		r, ok := impl.RecurrenceOfAutomaton(aut(c.a))
		wantRecurrence(t, "RecurrenceOfAutomaton of "+c.a, r, ok, c.values)
		r, ok = impl.LevelRecurrence(aut(c.a))
		wantRecurrence(t, "LevelRecurrence of "+c.a, r, ok, c.levels)
		if isAutomaton(aut(c.a)) {
			checkLengths(t, aut(c.a))
		}
	}
	random := rand.New(rand.NewPCG(72, 9))
	for letters := 1; letters <= letterLimit; letters++ {
		for states := range stateLimit + 1 {
			checkLengths(t, smallAutomaton(random, states, letters))
			checkLengths(t, chain(letters, slices.Repeat([]int64{int64(letters - 1)}, max(states-1, 0))))
		}
	}
}
