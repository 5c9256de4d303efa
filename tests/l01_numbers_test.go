package tests

import (
	"fmt"
	"math"
	"math/big"
	"math/rand/v2"
	"slices"
	"strings"
	"testing"

	"loop.example/g01120/impl"
)

// Promise 2: numbers as texts, and exact arithmetic.

func TestIsNumberAndIsInteger(t *testing.T) {
	integers := []string{"0", "1", "-1", "10", "-100", "9223372036854775808", nines(60), "-" + nines(60), tenTo(59)}
	fractions := []string{"1/2", "-1/2", "3/2", "-7/30", "1/" + nines(60), "-1/" + nines(60), nines(60) + "/" + tenTo(59), "-" + tenTo(59) + "/" + nines(60)}
	bad := []string{
		"", "-", "/", "-/", "1/", "/1", "-/2", "1/-", "2/4", "+1", "-0", "5/1", "01", "-01", "00", "1/0", "0/1", "0/2", "-0/2", "1/02",
		"1/1", "-1/1", "6/3", "1/-2", "--1", "1-", "1/2/3", "1//2", " 1", "1 ", "1 /2", "1.5", "1e3", "0x1", "1_0", "none", "1,2", "-+1",
		"\x00", "1\x00", "\xff", "1\xff", "1/\xff", "\xc2", "٣", "１", "½", "1⁄2", "−1", "1\n", "\t1",
		nines(61), "-" + nines(61), tenTo(60), "1/" + nines(61), "1/" + tenTo(60), nines(61) + "/2", "0" + nines(59), strings.Repeat("0", 60),
		"2/" + tenTo(59), nines(60) + "/" + nines(59) + "0/1",
	}
	for _, s := range integers {
		if !impl.IsNumber(s) || !impl.IsInteger(s) {
			t.Errorf("%q is an integer", s)
		}
	}
	for _, s := range fractions {
		if !impl.IsNumber(s) || impl.IsInteger(s) {
			t.Errorf("%q is a number, but no integer", s)
		}
	}
	for _, s := range bad {
		if impl.IsNumber(s) || impl.IsInteger(s) {
			t.Errorf("%q is no number", s)
		}
	}
}

func TestIsNumberOfAllShortTexts(t *testing.T) {
	textsUpTo("0123-/+ ", 6, func(s string) {
		want := isNumberText(s)
		if impl.IsNumber(s) != want {
			t.Fatalf("IsNumber of %q: want %v", s, want)
		}
		if impl.IsInteger(s) != (want && !strings.Contains(s, "/")) {
			t.Fatalf("IsInteger of %q", s)
		}
	})
}

func TestIsNumbers(t *testing.T) {
	good := [][]string{nil, {}, {"0"}, {"1/2", "-3"}, copies("1", 60), copies("-"+nines(60)+"/"+tenTo(59), 60)}
	bad := [][]string{{""}, {"1", ""}, {"1", "2/4", "3"}, {"none"}, {"1,2"}, copies("1", 61), copies("x", 60), append(copies("1", 59), "-0")}
	for _, list := range good {
		if !impl.IsNumbers(list) {
			t.Errorf("%q are numbers", list)
		}
	}
	for _, list := range bad {
		if impl.IsNumbers(list) {
			t.Errorf("%q are no numbers", list)
		}
	}
}

func TestNumberOf(t *testing.T) {
	for _, n := range []int64{0, 1, -1, 10, -10, 1000000007, math.MaxInt64, math.MinInt64, math.MinInt64 + 1} {
		if got := impl.NumberOf(n); got != big.NewInt(n).String() || !impl.IsInteger(got) {
			t.Errorf("NumberOf(%d): got %q", n, got)
		}
	}
}

func TestSmallOf(t *testing.T) {
	for _, n := range []int64{0, 1, -1, 12, -12, 999999999999999, 1000000000000000, -999999999999999, -1000000000000000} {
		got, ok := impl.SmallOf(impl.NumberOf(n))
		wantInt(t, "SmallOf "+impl.NumberOf(n), got, ok, n, true)
	}
	bad := []string{
		"1000000000000001", "-1000000000000001", "9223372036854775807", "-9223372036854775808", "18446744073709551616", "18446744073709551617",
		nines(60), "-" + nines(60), "1/2", "-1/2", "", "-", "-0", "01", "+1", "5/1", "x", "1 ", nines(61),
	}
	for _, s := range bad {
		got, ok := impl.SmallOf(s)
		wantInt(t, "SmallOf "+s, got, ok, 0, false)
	}
}

// checkPair compares all functions of two numbers with the oracle.
func checkPair(t *testing.T, a, b string) {
	t.Helper()
	x, y := ratOf(a), ratOf(b)
	what := func(name string) string { return name + " " + a + " and " + b }
	got, ok := impl.AddNumbers(a, b)
	wantText(t, what("add"), got, ok, textOf(new(big.Rat).Add(x, y)))
	got, ok = impl.SubNumbers(a, b)
	wantText(t, what("sub"), got, ok, textOf(new(big.Rat).Sub(x, y)))
	got, ok = impl.MulNumbers(a, b)
	wantText(t, what("mul"), got, ok, textOf(new(big.Rat).Mul(x, y)))
	quotient := ""
	if y.Sign() != 0 {
		quotient = textOf(new(big.Rat).Quo(x, y))
	}
	got, ok = impl.DivNumbers(a, b)
	wantText(t, what("div"), got, ok, quotient)
	sign, ok := impl.CompareNumbers(a, b)
	wantInt(t, what("compare"), sign, ok, int64(x.Cmp(y)), true)
	divisor := ""
	if x.IsInt() && y.IsInt() {
		divisor = new(big.Int).GCD(nil, nil, new(big.Int).Abs(x.Num()), new(big.Int).Abs(y.Num())).String()
	}
	got, ok = impl.GcdOf(a, b)
	wantText(t, what("gcd"), got, ok, divisor)
}

// checkOne compares all functions of one number with the oracle. Div of math/big rounds down, as its divisor is positive.
func checkOne(t *testing.T, a string) {
	t.Helper()
	x := ratOf(a)
	got, ok := impl.FloorOf(a)
	wantText(t, "floor of "+a, got, ok, new(big.Int).Div(x.Num(), x.Denom()).String())
	for _, m := range []int64{1, 2, 3, 7, 10, 65536, 999999937, 1000000000} {
		rest, ok := impl.RemainderOf(a, m)
		want := int64(0)
		if x.IsInt() {
			want = new(big.Int).Mod(x.Num(), big.NewInt(m)).Int64()
		}
		wantInt(t, fmt.Sprint("remainder of ", a, " and ", m), rest, ok, want, x.IsInt())
	}
	power := big.NewRat(1, 1)
	for n := int64(0); n <= 60; n++ {
		got, ok := impl.PowerOf(a, n)
		wantText(t, fmt.Sprint("power of ", a, " and ", n), got, ok, textOf(power))
		power.Mul(power, x)
	}
}

func TestArithmeticOfSmallNumbers(t *testing.T) {
	var numbers []string
	for above := int64(-8); above <= 8; above++ {
		for below := int64(1); below <= 8; below++ {
			if s := big.NewRat(above, below).RatString(); !slices.Contains(numbers, s) {
				numbers = append(numbers, s)
			}
		}
	}
	for _, a := range numbers {
		checkOne(t, a)
		for _, b := range numbers {
			checkPair(t, a, b)
		}
	}
}

// limbNumbers are near powers of two and ten, where carries, borrows and guesses of a quotient go wrong if they do.
func limbNumbers() []string {
	var numbers []string
	add := func(n *big.Int) {
		for d := int64(-2); d <= 2; d++ {
			if s := new(big.Int).Add(n, big.NewInt(d)).String(); len(strings.TrimPrefix(s, "-")) <= digitLimit {
				numbers = append(numbers, s)
			}
		}
	}
	for _, shift := range []uint{0, 31, 32, 63, 64, 95, 127, 128, 160, 191, 192, 198, 199} {
		add(new(big.Int).Lsh(big.NewInt(1), shift))
		add(new(big.Int).Neg(new(big.Int).Lsh(big.NewInt(1), shift)))
	}
	for _, zeros := range []int{18, 19, 20, 37, 38, 39, 57, 58, 59} {
		add(intOf(tenTo(zeros)))
	}
	return numbers
}

func TestArithmeticOfGreatNumbers(t *testing.T) {
	t.Parallel()
	numbers := limbNumbers()
	for _, a := range numbers {
		checkOne(t, a)
		for _, b := range numbers {
			checkPair(t, a, b)
			if y := intOf(b); y.Sign() > 0 {
				checkOneFloor(t, new(big.Rat).SetFrac(intOf(a), y))
			}
		}
	}
}

func checkOneFloor(t *testing.T, x *big.Rat) {
	t.Helper()
	a := textOf(x)
	got, ok := impl.FloorOf(a)
	wantText(t, "floor of "+a, got, ok, new(big.Int).Div(x.Num(), x.Denom()).String())
}

// randomNumber has up to 60 digits above and below; zeros and nines come in runs.
func randomNumber(random *rand.Rand) string {
	integer := func() *big.Int {
		var digits strings.Builder
		for count := 1 + random.IntN(60); digits.Len() < count; {
			run := min(1+random.IntN(8), count-digits.Len())
			digit := string(rune('0' + random.IntN(10)))
			if random.IntN(2) == 0 {
				run = 1
			}
			digits.WriteString(strings.Repeat(digit, run))
		}
		return intOf(digits.String())
	}
	above, below := integer(), big.NewInt(1)
	if random.IntN(2) == 0 {
		above.Neg(above)
	}
	if random.IntN(3) > 0 {
		below = integer()
	}
	if below.Sign() == 0 {
		below.SetInt64(1)
	}
	return new(big.Rat).SetFrac(above, below).RatString()
}

func TestArithmeticOfRandomNumbers(t *testing.T) {
	t.Parallel()
	random := rand.New(rand.NewPCG(1, 2))
	for range 4000 {
		a, b := randomNumber(random), randomNumber(random)
		checkPair(t, a, b)
		checkPair(t, a, a)
		checkOneFloor(t, ratOf(a))
	}
	for range 100 {
		checkOne(t, randomNumber(random))
	}
}

func TestGcdOfFibonacciNumbers(t *testing.T) {
	a, b := big.NewInt(0), big.NewInt(1)
	for len(b.String()) <= digitLimit {
		got, ok := impl.GcdOf(a.String(), b.String())
		wantText(t, "gcd of neighbours", got, ok, "1")
		got, ok = impl.GcdOf("-"+b.String(), b.String())
		wantText(t, "gcd of a number and itself", got, ok, b.String())
		a, b = b, new(big.Int).Add(a, b)
	}
}

func TestSumsOfRandomLists(t *testing.T) {
	random := rand.New(rand.NewPCG(3, 4))
	for round := range 200 {
		a, b := []string{}, []string{}
		for range random.IntN(61) {
			a, b = append(a, randomNumber(random)), append(b, randomNumber(random))
		}
		if round%2 == 0 { // pairs that cancel leave a small result of great parts
			a = a[:len(a)/2]
			for _, s := range slices.Clone(a) {
				a = append(a, textOf(new(big.Rat).Neg(ratOf(s))))
			}
			random.Shuffle(len(a), func(i, k int) { a[i], a[k] = a[k], a[i] })
			b = copies(randomNumber(random), len(a))
			if len(a) > 0 {
				a[0] = "1/3"
			}
		}
		sum, dot := new(big.Rat), new(big.Rat)
		for i := range a {
			sum.Add(sum, ratOf(a[i]))
			dot.Add(dot, new(big.Rat).Mul(ratOf(a[i]), ratOf(b[i])))
		}
		got, ok := impl.SumNumbers(a)
		wantText(t, "sum", got, ok, textOf(sum))
		got, ok = impl.DotNumbers(a, b)
		wantText(t, "dot", got, ok, textOf(dot))
	}
}

func TestNumbersTextAndReadNumbers(t *testing.T) {
	lists := map[string][]string{
		"none":                          nil,
		"0":                             {"0"},
		"1,-1/2":                        {"1", "-1/2"},
		"-3,0,0,7/5":                    {"-3", "0", "0", "7/5"},
		strings.Repeat("1,", 59) + "1":  copies("1", 60),
		nines(60) + ",-1/" + tenTo(59):  {nines(60), "-1/" + tenTo(59)},
		strings.Repeat("-2,", 59) + "5": append(copies("-2", 59), "5"),
	}
	for text, list := range lists {
		got, ok := impl.NumbersText(list)
		wantText(t, "NumbersText", got, ok, text)
		read, ok := impl.ReadNumbers(text)
		if !ok || !slices.Equal(read, list) {
			t.Errorf("ReadNumbers of %q: got %q, %v", text, read, ok)
		}
	}
	got, ok := impl.NumbersText([]string{})
	wantText(t, "NumbersText of an empty list", got, ok, "none")
	for _, list := range [][]string{{""}, {"none"}, {"1", "2/4"}, {"1", "+1"}, {"1,2"}, copies("1", 61), {nines(61)}} {
		got, ok := impl.NumbersText(list)
		wantText(t, "NumbersText of no numbers", got, ok, "")
	}
	bad := []string{
		"", ",", "1,", ",1", "1,,2", "1, 2", " 1", "1 ", "1;2", "1,2\n", "none,1", "1,none", "none,none", "None", " none", "none ", "non", "none,", "nonee",
		"-0", "1,-0", "01", "1,2/4", "1,+1", "[1]", "1,\xff", "1,\x00", nines(61), "1," + nines(61), strings.Repeat("1,", 60) + "1", strings.Repeat("1,", 60),
		strings.Repeat(",", 100000), strings.Repeat("1,", 100000), strings.Repeat("1", 100000),
	}
	for _, s := range bad {
		read, ok := impl.ReadNumbers(s)
		if ok || len(read) != 0 {
			t.Errorf("ReadNumbers of %.40q: got %q, %v", s, read, ok)
		}
	}
}

func TestReadNumbersOfAllShortTexts(t *testing.T) {
	textsUpTo("01-/,n ", 6, func(s string) {
		want := !slices.ContainsFunc(strings.Split(s, ","), func(item string) bool { return !isNumberText(item) })
		list, ok := impl.ReadNumbers(s)
		if ok != want || ok && strings.Join(list, ",") != s || !ok && len(list) != 0 {
			t.Fatalf("ReadNumbers of %q: got %q, %v", s, list, ok)
		}
	})
}

func TestExamplesOfNumbers(t *testing.T) {
	got, ok := impl.AddNumbers("3/4", "1/4")
	wantText(t, "3/4 plus 1/4", got, ok, "1")
	got, ok = impl.FloorOf("-7/2")
	wantText(t, "floor of -7/2", got, ok, "-4")
	for _, s := range []string{"2/4", "+1", "-0", "5/1"} {
		if impl.IsNumber(s) {
			t.Errorf("%s is no number", s)
		}
	}
	rest, ok := impl.RemainderOf("-7", 3)
	wantInt(t, "remainder of -7 divided by 3", rest, ok, 2, true)
}
