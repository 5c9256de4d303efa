package tests

import (
	"math/big"
	"math/rand/v2"
	"slices"
	"strings"
	"testing"

	"loop.example/g01120/impl"
)

// Promise 8 with results of MaxDigits digits and more, and with numbers on the way that have many more.

func TestDigitsOfExpressions(t *testing.T) {
	t.Parallel()
	great, there, back := nines(60), tenTo(59), "1/"+tenTo(59)
	half, less := "5"+strings.Repeat("0", 59), "4"+nines(59)
	for _, text := range []string{
		great, "-1/" + great, "!" + great + " a", "!-" + great + " !" + back + " a", ". " + there + " 9", ". " + there + " 10", "!10 " + there, "!1/10 " + back, "!9 " + there, "!10 !" + there + " a", "!1/10 !10 !" + there + " a",
		"+ " + half + " " + less, "+ " + half + " " + half, "+ !" + half + " a !" + less + " a", "+ !" + half + " a !" + half + " a", "+ + !" + half + " a !" + half + " a -1", "+ + " + half + " " + half + " -1",
		"* !" + great + " a", "* !10 !" + there + " a", "* !1/10 !10 !" + there + " a", "* + !" + great + " a !-" + great + " a", "* + + " + great + " a -" + great, "* . !" + there + " a !" + back + " a", "* . !" + there + " a !" + there + " a",
		". * !" + there + " a * !" + back + " a", "!" + back + " !" + back + " !" + there + " !" + there + " * a", "+ 1/" + great + " -1/" + great, "+ 1/" + great + " 1/" + nines(59) + "8",
		"!0 !" + great + " !" + great + " !" + great + " * !" + great + " a", ". !" + great + " !" + great + " a . 0 a", "+ !" + great + " !" + great + " a !-" + great + " !" + great + " a",
		"+ . !" + great + " a !" + great + " a . !-" + great + " a !" + great + " a", ". . !" + there + " a !" + there + " a !" + back + " a", ". . . !" + there + " a !" + there + " a !" + back + " a !" + back + " a",
	} {
		for letters := 1; letters <= 2; letters++ {
			checkParts(t, letters, parts(text), [][]int64{{}, {0}, {0, 0}, {0, 0, 0}, {0, 0, 0, 0}, make([]int64, 12)})
		}
	}
}

func TestGreatNumbersOnTheWayToValuesOfExpressions(t *testing.T) {
	list := parts("* + !" + tenTo(59) + " a !1/" + tenTo(59) + " b")
	for _, c := range []struct{ word, want string }{
		{"aaaaaabbbbbb", "1"}, {"aaaaaabbbbb", tenTo(59)}, {"aaaaaabbbb", ""}, {"bbbbbbaaaaaa", "1"}, {"bb", ""}, {"b", "1/" + tenTo(59)}, {"abababababab", "1"},
	} {
		value, ok := impl.ValueOfParts(2, list, unspelled(c.word))
		wantText(t, "value of "+c.word, value, ok, c.want)
		checkPartValues(t, 2, list, [][]int64{unspelled(c.word)})
	}
	for _, c := range []struct{ text, want string }{{"* !99999 a", "99994000149998000014999940000" + "1"}, {"* !100000 a", ""}, {"* !-1/100000 a", ""}, {"* !-1/99999 a", ""}} {
		list := parts(c.text)
		value, ok := impl.ValueOfParts(1, list, make([]int64, 6))
		if c.text == "* !99999 a" {
			wantText(t, "value of "+c.text, value, ok, c.want)
		}
		checkPartValues(t, 1, list, [][]int64{make([]int64, 11), make([]int64, 12), make([]int64, 6)})
	}
}

func TestDigitsOfProductsAndStars(t *testing.T) {
	t.Parallel()
	great, there, back := nines(60), tenTo(59), "1/"+tenTo(59)
	for _, c := range []struct{ a, b string }{
		{"1;" + there + ";0", "1;9;0"}, {"1;" + there + ";0", "1;10;0"}, {"1;-1/" + great + ";0", "1;1;0"}, {"1;" + back + ";0", "1;1/10;0"}, {"1;" + great + ";" + great, "1;1;0"}, {"1;1;" + tenTo(30), "1;1;" + tenTo(29)}, {"1;1;" + tenTo(30), "1;1;" + tenTo(30)},
		{"1;" + great + ";" + great, "1;1/" + great + ";1/" + great}, {"1;1;" + there, "1;1;" + back}, {"1;1;-" + there, "1;1;-" + there}, {"1;" + there + ";0", "1;" + back + ";" + there}, {there + ";" + there + ";1", back + ";" + back + ";1"}, {there + ";" + there + ";1", "0;1;1"},
		{"1;1;5" + strings.Repeat("0", 59), "1;1;4" + nines(59)}, {"1;1;5" + strings.Repeat("0", 59), "1;1;5" + strings.Repeat("0", 59)}, {"1,1;" + great + ",-" + great + ";1,0|0,1", "1,1;" + great + "," + great + ";1,0|0,1"},
		{"1,0;0,1;0," + there + "|0,0", "1,0;0,1;0,9|0,0"}, {"1,0;0,1;0," + there + "|0,0", "1,0;0,1;0,10|0,0"}, {"1,0;0," + there + ";0," + there + "|0,0", "1,0;0," + back + ";0," + back + "|0,0"},
	} {
		checkProducts(t, aut(c.a), aut(c.b))
		checkProducts(t, aut(c.b), aut(c.a))
	}
	for _, s := range []string{"1,0;0," + great + ";0,1|0,0", "1,0;0," + there + ";0,9|0,0", "1,0;0," + there + ";0,10|0,0", "1,0;0," + there + ";0," + back + "|0,0", there + ",0;0," + there + ";0,1|0,0", there + ",0;0," + back + ";0,1|0,0", "1,1;" + great + ",-" + great + ";0,0|0,1", "1,1;" + great + ",-" + great + ";1,0|0,1", "1,0;0,1/" + great + ";0,-1/" + great + "|0,0", "1,1;" + great + ",-" + nines(59) + "8;1,0|0,1"} {
		checkStar(t, aut(s))
	}
}

// mixed returns an automaton of the same series whose states are multiples, with many digits, of those of another one.
func mixed(a impl.Automaton) impl.Automaton {
	return scaledStates(a, []string{nines(29), "1/" + tenTo(28), "7/" + nines(28), "1/" + nines(27), "-3", tenTo(28)}[:len(a.Start)])
}

func TestGreatNumbersOnTheWayToProductsAndStars(t *testing.T) {
	t.Parallel()
	for _, c := range []struct{ a, b string }{
		{"1,0;0,1;0,1|-1,2", "1,0;2,1;0,1|1,1"}, {"1,0,0;0,1,2;0,1,0|0,0,1|1,0,0", "1,0;1,3;0,1|-2,3"}, {"1,0,0;0,0,1;0,1,0|0,0,1|0,0,0", "1,0,0;0,1,0;0,1,0|0,0,1|1,1,1"},
	} {
		a, b := aut(c.a), aut(c.b)
		checkProducts(t, mixed(a), mixed(b))
		checkProducts(t, a, mixed(b))
		checkStar(t, mixed(a))
		for _, operation := range []func(a, b impl.Automaton) (impl.Automaton, bool){impl.ConcatAutomata, impl.HadamardAutomata} {
			want, ok := operation(a, b)
			if !ok {
				t.Errorf("%s and %s: it fails", c.a, c.b)
			}
			got, ok := operation(mixed(a), mixed(b))
			wantAutomaton(t, "an operation with great numbers", got, ok, autText(want))
		}
		checkLengths(t, mixed(a))
		checkTable(t, mixed(a), 12)
	}
	random := rand.New(rand.NewPCG(73, 1))
	for round := range 12 {
		letters := 1 + round%letterLimit
		a := randomAutomaton(1+round%2, letters, func() string { return randomNumber(random) })
		b := randomAutomaton(1, letters, func() string { return randomNumber(random) })
		checkProducts(t, a, b)
		checkStar(t, a)
		checkLengths(t, a)
		checkTable(t, b, round%4)
	}
}

func TestDigitsOfTables(t *testing.T) {
	for length, want := range map[int64]bool{10: true, 11: true, 12: false} {
		for _, s := range []string{"1;1;100000", "1;1;-1/100000"} {
			table, ok := impl.TableOf(aut(s), length)
			if ok != want || ok != (len(table) > 0) {
				t.Errorf("TableOf the length %d of %s: got %q, %v", length, s, table, ok)
			}
			checkTable(t, aut(s), int(length))
		}
	}
	for _, s := range []string{"10;" + tenTo(58) + ";1", "100;" + tenTo(58) + ";1", "1;1;" + nines(60) + ";1/" + nines(60), "1,1;" + nines(60) + ",-" + nines(60) + ";" + nines(60) + ",0|0," + nines(60), "1/2;2;1/" + tenTo(59)} {
		for length := range 3 {
			checkTable(t, aut(s), length)
		}
	}
}

func TestDigitsOfLearnedAutomata(t *testing.T) {
	great, other := nines(60), nines(59)+"8"
	for _, c := range []struct {
		letters, length int
		table, want     string
	}{
		{1, 1, great + "," + great, "1;" + great + ";1"}, {1, 1, "1," + great, "1;1;" + great}, {1, 1, "1/" + great + ",1", "1;1/" + great + ";" + great}, {1, 1, "1/" + great + ",2", ""}, {1, 1, "1/2," + great, ""}, {1, 1, great + ",1/" + other, ""}, {1, 1, great + ",1/2", ""}, {1, 1, great + ",0", "1;" + great + ";0"},
		{1, 3, "1," + great + ",0,0", "1,0;1," + great + ";0,1|0,0"}, {1, 3, "0,1," + great + "," + great, ""}, {1, 3, "0,1,0," + great, "1,0;0,1;0,1|" + great + ",0"}, {1, 3, "0,1/" + great + ",0,1", "1,0;0,1/" + great + ";0,1|" + great + ",0"},
		{2, 1, "1," + great + ",1/" + great, "1;1;" + great + ";1/" + great}, {1, 2, "1,1/" + tenTo(29) + ",1/" + tenTo(58), "1;1;1/" + tenTo(29)},
	} {
		table := listFrom(c.table)
		checkLearned(t, c.letters, c.length, table)
		got, ok := impl.LearnFrom(int64(c.letters), int64(c.length), table)
		wantAutomaton(t, "LearnFrom "+c.table, got, ok, c.want)
	}
	random := rand.New(rand.NewPCG(73, 2))
	for _, c := range []struct{ letters, length int }{{1, 12}, {2, 6}, {3, 4}} {
		table := []string{}
		for range tableSize(c.letters, c.length) {
			table = append(table, randomNumber(random))
		}
		checkLearned(t, c.letters, c.length, table)
		checkLearned(t, c.letters, c.length, copies("-"+great+"/"+tenTo(59), len(table)))
	}
}

func TestDigitsOfRecurrencesOfAutomata(t *testing.T) {
	half, less := "5"+strings.Repeat("0", 59), "4"+nines(59)
	great := "-" + nines(60) + "/" + tenTo(59)
	for _, s := range []string{"1;1;" + half + ";" + less, "1;1;" + half + ";" + half, "1;1;1/" + half + ";-1/" + half + ";0", "1;1;1/" + half + ";1/" + less, "1,1;" + half + "," + less + ";1,0|0,1", "1,1;" + half + "," + half + ";1,0|0,1", "3;" + great + ";" + great, "1;" + great + ";" + great, "1,0;1,0;0,1|" + great + "," + nines(60), "1,0;" + half + ",0;0,1|1,1;0,1|1,1"} {
		checkLengths(t, aut(s))
	}
	for _, s := range []string{nines(60) + ";" + great, great + "," + great + ";" + great + "," + great, "1," + nines(60) + ";0,0", "0,0," + great + ";0,0,1/" + nines(60), nines(60) + "," + nines(60) + ";1,0"} {
		checkOneLetter(t, rec(s))
	}
	random := rand.New(rand.NewPCG(73, 3))
	for order := range orderLimit + 1 {
		checkOneLetter(t, greatRecurrence(random, order))
	}
}

// Numbers that are 0 modulo primes with as many bits as machine words are not 0.
func TestSeriesThatPrimesDivide(t *testing.T) {
	t.Parallel()
	for _, bits := range []uint{61, 62, 63, 64} {
		products := append([]string{primesBelow(bits, 1)[0].String()}, productsOfPrimes(bits, 2)...)
		p, q := products[1], products[2]
		for _, x := range products {
			for _, text := range []string{"!" + x + " a", "+ 1 !" + x + " a", "+ . a a !" + x + " a", "!1/" + x + " a", "* !" + x + " a", ". !" + x + " a !1/" + x + " a", "+ a . a !" + x + " a", ". * a + 1 !-" + x + " a"} {
				checkParts(t, 1, parts(text), [][]int64{{}, {0}, {0, 0}, {0, 0, 0}})
				checkParts(t, 2, parts(strings.Replace(text, "a", "b", 1)), [][]int64{{}, {0}, {1}, {1, 0}, {0, 1}})
			}
			late := aut("1,0,0;1,0,0;0," + x + ",0|0,0,1|1,0,0")
			checkProducts(t, late, aut("1;1;1"))
			checkProducts(t, late, aut("1;1;1/2"))
			checkStar(t, aut("1,0,0;0,0,1;0,"+x+",0|0,0,1|1,0,0"))
			checkProducts(t, aut("1;"+x+";"+x), aut("1;1/"+x+";1/"+x))
			checkProducts(t, aut("1,0;0,1;0,"+x+"|0,0;0,1|0,0"), aut("1,0;0,1;0,1|0,0;0,1|0,0"))
			checkTable(t, late, 2)
			checkTable(t, late, 12)
			checkLengths(t, late)
			checkLengths(t, aut("1;1;"+x+";-"+x))
		}
		// The values of both are 0 modulo some primes each, and so are determinants.
		checkProducts(t, aut("1,0;0,1;0,"+p+"|0,0;0,1|0,0"), aut("1,0;0,1;0,"+q+"|0,0;0,1|0,0"))
		checkProducts(t, aut("1,0;0,1;0,"+p+"|0,0;0,"+q+"|0,0"), aut("1,0;0,1;0,1/"+q+"|0,0;0,1/"+p+"|0,0"))
	}
}

// There can be more states than there may be though there are fewer modulo some primes.
func TestTooManyStatesThatPrimesDivide(t *testing.T) {
	for _, bits := range []uint{62, 63, 64} {
		for _, p := range append(productsOfPrimes(bits, 1), primesBelow(bits, 1)[0].String()) {
			for _, text := range []string{". . . . . a a a a a !p a", "!p . . . . . a a a a a a", ". !p a . . . . a a a a a", "+ !p . . . . a a a a a a"} {
				list := parts(strings.ReplaceAll(text, "p", p))
				a, ok := impl.AutomatonOfParts(2, list)
				if want := text[0] == '+'; ok != want || ok && len(a.Start) != 6 {
					t.Errorf("AutomatonOfParts of %s: got %s, %v", partsText(list), autText(a), ok)
				}
			}
			long := chain(1, make([]int64, 3))
			long.Start[0] = p
			a, ok := impl.ConcatAutomata(long, chain(1, make([]int64, 3)))
			wantAutomaton(t, "ConcatAutomata with seven states", a, ok, "")
			a, ok = impl.ConcatAutomata(long, chain(1, make([]int64, 2)))
			wantAutomaton(t, "ConcatAutomata with six states", a, ok, strings.Replace(autText(chain(1, make([]int64, 5))), ",1;", ","+p+";", 1))
			one, two := aut(p+",0;1,0;0,1|1,0"), aut("1,0,0,0,0;1,0,0,0,0;0,1,0,0,0|0,0,1,0,0|0,0,0,1,0|0,0,0,0,1|1,0,0,0,0")
			a, ok = impl.HadamardAutomata(one, two)
			wantAutomaton(t, "HadamardAutomata with ten states", a, ok, "")
			a, ok = impl.HadamardAutomata(two, one)
			wantAutomaton(t, "HadamardAutomata with ten states", a, ok, "")
		}
	}
}

// The only value of a product can be 0 modulo many primes, which the numbers of both series are made of.
func TestProductsThatManyPrimesDivide(t *testing.T) {
	t.Parallel()
	for _, bits := range []uint{62, 63, 64} {
		p := productsOfPrimes(bits, 12)
		one, two := chain(1, make([]int64, 5)), chain(1, make([]int64, 5))
		for i := range 5 {
			one.Moves[0][i][i+1], two.Moves[0][i][i+1] = p[i], p[5+i]
		}
		one.Start[0], two.End[5] = p[10], p[11]
		product, ok := impl.HadamardAutomata(one, two)
		wantAutomaton(t, "HadamardAutomata with great values", product, ok, "")
		checkProducts(t, one, two)
		half := chain(1, make([]int64, 2))
		half.Moves[0][0][1], half.Moves[0][1][2], half.End[2] = p[0], p[1], p[2]
		other := chain(1, make([]int64, 2))
		other.Moves[0][0][1], other.Moves[0][1][2], other.End[2] = p[3], p[4], p[5]
		product, ok = impl.ConcatAutomata(half, other)
		wantAutomaton(t, "ConcatAutomata with great values", product, ok, "")
		star, ok := impl.StarAutomaton(half)
		wantAutomaton(t, "StarAutomaton with great values", star, ok, "")
		list := parts(". !" + p[0] + " a . !" + p[1] + " a . !" + p[2] + " a !" + p[3] + " a")
		a, ok := impl.AutomatonOfParts(1, list)
		wantAutomaton(t, "AutomatonOfParts with great values", a, ok, "")
		// What is left when they are divided out again has few digits.
		back := chain(1, make([]int64, 5))
		for i := range 5 {
			back.Moves[0][i][i+1] = "1/" + p[i]
		}
		back.End[5] = "1/" + p[10]
		product, ok = impl.HadamardAutomata(one, back)
		wantAutomaton(t, "HadamardAutomata with the quotients", product, ok, autText(chain(1, make([]int64, 5))))
	}
}

// Values are not what is left of them modulo a prime such as 2 to the power of 521, less 1.
func TestSeriesThatAreSmallModuloGreatPrimes(t *testing.T) {
	power := func(n uint) string { return new(big.Int).Lsh(big.NewInt(1), n).String() }
	for _, exponents := range [][]uint{{173, 174, 174}, {174, 174, 173}, {199, 199, 123}, {130, 130, 130, 131}} {
		text := []string{}
		for _, n := range exponents {
			text = append(text, "!"+power(n)+" a")
		}
		list := parts(strings.Repeat(". ", len(text)-1) + strings.Join(text, " "))
		a, ok := impl.AutomatonOfParts(1, list)
		wantAutomaton(t, "AutomatonOfParts of "+partsText(list), a, ok, "")
		checkParts(t, 1, list, [][]int64{{}, {0}, make([]int64, len(exponents))})
		ring, other := randomAutomaton(len(exponents), 1, func() string { return "0" }), randomAutomaton(len(exponents), 1, func() string { return "0" })
		ring.Start[0], ring.End[0], other.Start[0], other.End[0] = "1", "1", "1", "1"
		for i, n := range exponents {
			next := (i + 1) % len(exponents)
			ring.Moves[0][i][next], other.Moves[0][i][next] = power(n/2), power(n-n/2)
		}
		product, ok := impl.HadamardAutomata(ring, other)
		wantAutomaton(t, "HadamardAutomata of rings", product, ok, "")
	}
	half := "1;" + power(199) + ";0"
	product, ok := impl.ConcatAutomata(aut(half), aut("1,0;0,"+power(199)+";0,"+power(123)+"|0,0"))
	wantAutomaton(t, "ConcatAutomata", product, ok, "")
}

// The rows of two words can be independent though they are not modulo a prime of many digits.
func TestProductsWithDeterminantsThatAreGreatPrimes(t *testing.T) {
	prime := new(big.Int).Sub(new(big.Int).Lsh(big.NewInt(1), 521), big.NewInt(1))
	divisor := new(big.Int).Exp(big.NewInt(10), big.NewInt(59), nil)
	found := 0
	for tries := 0; found < 2 && tries < 3000; tries++ {
		divisor.Add(divisor, big.NewInt(1))
		s, ok := automatonWithDeterminant(prime, divisor)
		if !ok {
			continue
		}
		found++
		for _, one := range []string{"1;1;1", "1/2;2;1", "1,1;1/3,2/3;1,0|0,1"} {
			product, ok := impl.HadamardAutomata(aut(s), aut(one))
			wantAutomaton(t, "HadamardAutomata with ones", product, ok, s)
			product, ok = impl.HadamardAutomata(aut(one), aut(s))
			wantAutomaton(t, "HadamardAutomata with ones", product, ok, s)
		}
		product, ok := impl.ConcatAutomata(aut(s), aut("1;1;0"))
		wantAutomaton(t, "ConcatAutomata with the empty word", product, ok, s)
		r, ok := impl.RecurrenceOfAutomaton(aut(s))
		least := recAutomaton(r)
		if !ok || autText(least) != s {
			t.Errorf("RecurrenceOfAutomaton of %s: got %s, %v", s, recText(r), ok)
		}
		sums, ok := impl.LevelRecurrence(aut(s))
		if !ok || !slices.Equal(sums.Coeffs, r.Coeffs) {
			t.Errorf("LevelRecurrence of %s: got %s, %v", s, recText(sums), ok)
		}
	}
	if found == 0 {
		t.Error("no automaton has the determinant")
	}
}
