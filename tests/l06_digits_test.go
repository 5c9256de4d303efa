package tests

import (
	"fmt"
	"math/big"
	"strings"
	"testing"

	"loop.example/g01120/impl"
)

// Promise 7 with results of MaxDigits digits and more, and with numbers on the way that have many more.

func TestDigitsOfValues(t *testing.T) {
	twelve := make([]int64, 12)
	for _, c := range []struct {
		a    string
		word []int64
	}{
		{"1;1;99999", twelve}, {"1;1;100000", twelve}, {"1;1;-1/99999", twelve}, {"1;1;-1/100000", twelve},
		{"1;" + nines(60) + ";1", nil}, {"2;" + nines(60) + ";1", nil}, {"5;2" + nines(58) + "8;1", nil},
		{"1,1;5" + nines(59) + ",4" + nines(59) + ";1,0|0,1", nil}, {"1,1;5" + strings.Repeat("0", 59) + ",4" + nines(59) + ";1,0|0,1", nil},
		{"1,1;5" + strings.Repeat("0", 59) + ",5" + strings.Repeat("0", 59) + ";1,0|0,1", nil}, {"1,1;" + nines(60) + ",-" + nines(60) + ";2,0|0,2", twelve},
		{"1,1;1/" + nines(60) + ",1/" + nines(59) + "8;1,0|0,1", nil}, {"1,1;1/" + nines(60) + ",-1/" + nines(60) + ";1,0|0,1", twelve},
	} {
		checkValues(t, aut(c.a), [][]int64{c.word})
		checkLevels(t, aut(c.a), 1)
		checkRows(t, aut(c.a))
	}
}

func TestGreatNumbersOnTheWayToValues(t *testing.T) {
	there, back := tenTo(59), "1/"+tenTo(59)
	a := aut("1;1;" + there + ";" + back)
	for _, c := range []struct{ word, want string }{
		{"000000111111", "1"}, {"00000011111", tenTo(59)}, {"0000001111", ""}, {"111111000000", "1"}, {"111111", ""}, {"1", back}, {"010101010101", "1"},
	} {
		word := []int64{}
		for _, letter := range c.word {
			word = append(word, int64(letter-'0'))
		}
		value, ok := impl.ValueOf(a, word)
		wantText(t, "ValueOf "+c.word, value, ok, c.want)
		checkValues(t, a, [][]int64{word})
	}
	// Vectors can have too many digits where values have not.
	b := aut("1,1;1,-1;" + there + ",0|0," + there)
	value, ok := impl.ValueOf(b, []int64{0, 0})
	wantText(t, "ValueOf", value, ok, "0")
	behind, ok := impl.BehindWord(b, []int64{0, 0})
	wantAutomaton(t, "BehindWord", behind, ok, "")
	behind, ok = impl.BehindWord(b, []int64{0})
	wantAutomaton(t, "BehindWord", behind, ok, there+","+there+strings.TrimPrefix(autText(b), "1,1"))
	checkLevels(t, b, 20)
	checkRows(t, b)
}

func TestDigitsOfLevelSums(t *testing.T) {
	for _, s := range []string{"1;1;1000", "1;1;999", "1;1;500;500", "1;1;500;499", "1;1;1000;-1000;1", "1;1;-1/1000", "1;1;1/999", "3;1/3;1/7;1/11"} {
		for _, count := range []int{19, 20} {
			checkLevels(t, aut(s), count)
		}
	}
	// The last sums of these are 10 to the power of 59, which has 60 digits, and of 60.
	_, ok := impl.LevelSums(aut("10;10;1000"), 20)
	if !ok {
		t.Error("the sums have at most 60 digits")
	}
	_, ok = impl.LevelSums(aut("100;10;1000"), 20)
	if ok {
		t.Error("the last sum has 61 digits")
	}
	_, ok = impl.LevelSums(aut("100;10;1000"), 19)
	if !ok {
		t.Error("the sum with 61 digits is not asked for")
	}
	// Sums of letters that cancel, and great numbers on the way that do.
	great := nines(60)
	checkLevels(t, aut("1;1;"+great+";-"+great+";1"), 20)
	checkLevels(t, aut("1,0,0,0;0,0,0,1;0,"+great+",0,0|0,0,"+great+",0|0,0,0,1/"+great+"|1/"+great+",0,0,0"), 20)
	checkLevels(t, aut("1;1;"+great+";1"), 20)
}

// scaledStates returns an automaton of the same series whose states are multiples of those of another one.
func scaledStates(a impl.Automaton, factors []string) impl.Automaton {
	change, inverse := []rats{}, []rats{}
	for i, factor := range factors {
		change, inverse = append(change, zeros(len(factors))), append(inverse, zeros(len(factors)))
		change[i][i] = ratOf(factor)
		inverse[i][i] = new(big.Rat).Inv(ratOf(factor))
	}
	return aut(changedStates(machineOf(a), change, inverse).text())
}

func TestGreatNumbersOnTheWayToReducedAutomata(t *testing.T) {
	for _, c := range []struct {
		a       string
		factors []string
	}{
		{"1,0;0,1;0,1|-1,2;1,0|0,1", []string{nines(30), "1/" + tenTo(29)}},
		{"1,0,0;1,2,3;0,1,0|0,0,1|1,1,1", []string{nines(29), "1/" + tenTo(29), "7/" + nines(28)}},
		{"1,0,0,0,0,0;1,2,4,8,16,-1;0,1,0,0,0,0|0,0,1,0,0,0|0,0,0,1,0,0|0,0,0,0,1,0|0,0,0,0,0,1|1/2,1,0,0,-3,1", []string{"1/" + nines(29), nines(29), "1/" + tenTo(28), tenTo(28), "-1/" + nines(27), "3"}},
	} {
		a := aut(c.a)
		b := scaledStates(a, c.factors)
		wantReduced(t, a, c.a)
		wantReduced(t, b, c.a)
		checkTelling(t, a, b)
		checkRows(t, b)
		checkLevels(t, b, 6)
	}
}

func TestDigitsOfReducedAutomata(t *testing.T) {
	half, less := "5"+strings.Repeat("0", 59), "4"+nines(59)
	wantReduced(t, aut("1,1;"+half+","+less+";2,0|0,2"), "1;"+nines(60)+";2")
	wantReduced(t, aut("1,1;"+half+","+half+";2,0|0,2"), "")
	wantReduced(t, aut("1,0;1,1;"+half+","+less+"|"+less+","+half), "1;1;"+nines(60))
	wantReduced(t, aut("1,0;1,1;"+half+","+half+"|"+half+","+half), "")
	wantReduced(t, aut("1,0;1,1;-"+half+",-"+half+"|-"+half+",-"+half), "")
	wantReduced(t, aut("1,0;1,1;1/"+half+",1/"+less+"|1/"+less+",1/"+half), "")
	wantReduced(t, aut("1,0;1,1;1/"+nines(60)+",-1/"+nines(60)+"|2/"+nines(60)+",-2/"+nines(60)), "1;1;0")
	great := "-" + nines(60) + "/" + tenTo(59)
	wantReduced(t, aut("1;"+great+";"+great), "1;"+great+";"+great)
	wantReduced(t, aut("1,0;1,0;0,1|"+great+","+nines(60)), "1,0;1,0;0,1|"+great+","+nines(60))
	wantReduced(t, aut("3;"+great+";"+great), "")
	for _, s := range []string{"1,1;" + half + "," + half + ";2,0|0,2", "1,0;1,1;" + half + "," + half + "|" + half + "," + half, "3;" + great + ";" + great} {
		rank, ok := impl.RankOfSeries(aut(s))
		wantInt(t, "RankOfSeries of "+s, rank, ok, 1, true)
	}
}

// primesBelow are the greatest primes below a power of two.
func primesBelow(bits uint, count int) []*big.Int {
	primes := []*big.Int{}
	x := new(big.Int).Lsh(big.NewInt(1), bits)
	for len(primes) < count {
		x.Sub(x, big.NewInt(1))
		if x.ProbablyPrime(20) {
			primes = append(primes, new(big.Int).Set(x))
		}
	}
	return primes
}

// Numbers that are 0 modulo primes with as many bits as machine words are not 0.
func TestValuesThatPrimesDivide(t *testing.T) {
	for _, bits := range []uint{31, 32, 61, 62, 63, 64, 89, 107, 127} {
		primes := primesBelow(bits, 6)
		products := []*big.Int{big.NewInt(1)}
		for i, p := range primes {
			product := new(big.Int).Mul(products[i], p)
			if len(product.String()) > digitLimit {
				break
			}
			products = append(products, product)
		}
		for _, product := range products[1:] {
			p := product.String()
			for _, s := range []string{
				"1;" + p + ";" + p, "1/" + p + ";1;" + p, "1,0;0," + p + ";0,1|1,0", "1,0;1,0;0,1|" + p + ",0", "1,0;1,0;0," + p + "|" + p + ",1", "1,0,0;0,0,1;0,0,0|0,0,0|0,0,0;0," + p + ",0|0,0," + p + "|1,0,0",
				"1,0,0;0,1,0;0," + p + ",0|0,0,1|0,0,0;0,1,0|0,0,1|0,0,0", "1,1;1,1;" + p + ",0|0,1;2,0|0,2", p + "," + p + ";1,-1;1,0|0," + p,
			} {
				checkRows(t, aut(s))
			}
			checkTelling(t, aut("1;1;1"), aut("1;1;"+new(big.Int).Add(product, big.NewInt(1)).String()))
			checkTelling(t, aut("1;"+p+";1;2"), aut("1;0;1;2"))
			checkTelling(t, aut("1;0;1;2"), aut("1,0;0,"+p+";0,0|0,0;0,1|0,0"))
		}
	}
}

// productsOfPrimes are products of three primes each, all different.
func productsOfPrimes(bits uint, count int) []string {
	products := []string{}
	for i, p := range primesBelow(bits, 3*count) {
		if i%3 == 0 {
			products = append(products, "1")
		}
		products[i/3] = new(big.Int).Mul(intOf(products[i/3]), p).String()
	}
	return products
}

// Values of long words, and determinants, can be 0 modulo more primes than divide one number.
func TestValuesThatManyPrimesDivide(t *testing.T) {
	for _, bits := range []uint{62, 63, 64} {
		p := productsOfPrimes(bits, 7)
		long := chain(1, make([]int64, 5))
		long.Start[0], long.End[5] = p[5], p[6]
		for i := range 5 {
			long.Moves[0][i][i+1] = p[i]
		}
		checkRows(t, long)
		checkTelling(t, long, aut("1;0;2"))
		wide := randomAutomaton(5, 3, func() string { return "0" })
		wide.Start[0], wide.End[4] = "1", "1"
		for letter := range 3 {
			wide.Moves[letter][0][letter+1], wide.Moves[letter][letter+1][4] = p[letter], p[letter+3]
		}
		checkRows(t, wide)
	}
}

// Modulo a prime, there can be as many row words as there are states, but later ones.
func TestRowWordsThatAreLaterModuloPrimes(t *testing.T) {
	for _, bits := range []uint{62, 63, 64} {
		p := productsOfPrimes(bits, 2)
		for _, s := range []string{
			"1,0;0,1;0," + p[0] + "|0,0;0,1|0,0", "1,0;0,1;0," + p[0] + "|0,0;0," + p[0] + "|0,0;0,1|0,0", "1,0;0,1;0," + p[0] + "|0,0;0," + p[1] + "|0,0;0,1|0,0",
			"1,0,0;0,0,1;0," + p[0] + ",0|0,0,0|0,0,0;0,1,0|0,0," + p[0] + "|0,0,0;0,0,0|0,0,1|0,0,0",
		} {
			checkRows(t, aut(s))
		}
		// There are as many of them as there can be.
		most := chain(2, make([]int64, 5))
		for i := range 5 {
			most.Moves[0][i][i+1], most.Moves[1][i][i+1] = p[0], "1"
		}
		checkRows(t, most)
	}
}

// Fractions are not the same because their difference is 0 modulo a prime.
func TestFractionsThatAreTheSameModuloPrimes(t *testing.T) {
	for _, bits := range []uint{62, 63, 64} {
		for _, p := range append(productsOfPrimes(bits, 1), primesBelow(bits, 1)[0].String()) {
			other := new(big.Int).Add(intOf(p), big.NewInt(2)).String()
			for _, form := range []string{"1/x;1;1", "1;1/x;1", "1;1;1/x", "1;1;1;1/x", "-1/x;1/3;0", "2,0;0,1/x;0,1|0,0"} {
				a, b := aut(strings.ReplaceAll(form, "x", "2")), aut(strings.ReplaceAll(form, "x", other))
				checkTelling(t, a, b)
				checkTelling(t, b, a)
				checkTelling(t, a, a)
			}
		}
	}
}

// A coefficient is not what is left of it modulo a prime such as 2 to the power of 521, less 1.
func TestNumbersThatAreSmallModuloGreatPrimes(t *testing.T) {
	power := func(n uint) string { return new(big.Int).Lsh(big.NewInt(1), n).String() }
	for _, exponents := range [][]uint{{173, 174, 174}, {130, 130, 130, 131}, {104, 104, 104, 104, 105}, {199, 199, 199}, {190, 190, 190, 190}} {
		a := randomAutomaton(len(exponents), 1, func() string { return "0" })
		a.Start[0], a.End[0] = "1", "1"
		for i, n := range exponents {
			a.Moves[0][i][(i+1)%len(exponents)] = power(n)
		}
		wantReduced(t, a, "")
		rank, ok := impl.RankOfSeries(a)
		wantInt(t, "RankOfSeries of a ring", rank, ok, int64(len(exponents)), true)
	}
	wantReduced(t, aut("1,0,0;1,0,0;0,"+power(173)+",0|0,0,"+power(199)+"|1/"+power(199)+",0,0"), "1,0,0;1,0,0;0,1,0|0,0,1|"+power(173)+",0,0")
}

// The rows of two words can be independent though they are not modulo a prime of many digits.
func TestDeterminantsThatAreGreatPrimes(t *testing.T) {
	for _, size := range []uint{521, 607} {
		prime := new(big.Int).Sub(new(big.Int).Lsh(big.NewInt(1), size), big.NewInt(1))
		found := 0
		divisor := new(big.Int).Exp(big.NewInt(10), big.NewInt(59), nil)
		for tries := 0; found < 3 && tries < 3000; tries++ {
			divisor.Add(divisor, big.NewInt(1))
			if s, ok := automatonWithDeterminant(prime, divisor); ok {
				found++
				wantReduced(t, aut(s), s)
			}
		}
		if size == 521 && found == 0 {
			t.Error("no automaton has the determinant")
		}
	}
}

// automatonWithDeterminant looks for a recurrence of the order 2 whose first terms u and v, followed by w, have u w - v v as some prime; u is given. It is false if there is none with so few digits.
func automatonWithDeterminant(prime, u *big.Int) (string, bool) {
	if !u.ProbablyPrime(10) {
		return "", false
	}
	v := new(big.Int).ModSqrt(new(big.Int).Mod(new(big.Int).Neg(prime), u), u)
	if v == nil || v.Sign() == 0 {
		return "", false
	}
	w := new(big.Int).Mul(v, v)
	w.Add(w, prime).Div(w, u)
	first := new(big.Int).Mul(w, new(big.Int).ModInverse(v, u))
	first.Mod(first, u)
	second := new(big.Int).Mul(first, v)
	second.Sub(w, second).Div(second, u)
	s := fmt.Sprintf("1,0;%s,%s;0,1|%s,%s", u, v, second, first)
	return s, isAutomaton(aut(s))
}
