package tests

import (
	"math/big"
	"math/rand/v2"
	"regexp"
	"slices"
	"strconv"
	"strings"
	"testing"
)

// What polynomials are, in another way than the program's: fractions of math/big throughout, long division, determinants and linear equations.

// degreeLimit is written out, so that a wrong constant of the program is found.
const degreeLimit = 12

// A rats is a polynomial of any degree without zeros at the end, or any other list.
type rats []*big.Rat

func ratsOf(list []string) rats {
	p := rats{}
	for _, s := range list {
		p = append(p, ratOf(s))
	}
	return p
}

// listOf is the list of a result, and false for one that has too many coefficients or digits.
func listOf(p rats) ([]string, bool) {
	list := []string{}
	for _, c := range p {
		list = append(list, textOf(c))
	}
	if len(list) > degreeLimit+1 || slices.Contains(list, "") {
		return nil, false
	}
	return list, true
}

// isPolyList says what a polynomial is.
func isPolyList(list []string) bool {
	if len(list) > degreeLimit+1 || len(list) > 0 && list[len(list)-1] == "0" {
		return false
	}
	return !slices.ContainsFunc(list, func(s string) bool { return !isNumberText(s) })
}

func (p rats) cut() rats {
	for len(p) > 0 && p[len(p)-1].Sign() == 0 {
		p = p[:len(p)-1]
	}
	return p
}

func (p rats) coefficient(i int) *big.Rat {
	if i < len(p) {
		return p[i]
	}
	return new(big.Rat)
}

func (p rats) times(q rats) rats {
	product := rats{}
	for power := range max(len(p)+len(q)-1, 0) {
		sum := new(big.Rat)
		for i := range power + 1 {
			sum.Add(sum, new(big.Rat).Mul(p.coefficient(i), q.coefficient(power-i)))
		}
		product = append(product, sum)
	}
	return product.cut()
}

// plusTimes is p plus q times a number.
func (p rats) plusTimes(q rats, by *big.Rat) rats {
	sum := rats{}
	for i := range max(len(p), len(q)) {
		sum = append(sum, new(big.Rat).Add(p.coefficient(i), new(big.Rat).Mul(by, q.coefficient(i))))
	}
	return sum.cut()
}

// by is p times a number.
func (p rats) by(x *big.Rat) rats { return rats{}.plusTimes(p, x) }

func (p rats) top() *big.Rat { return p[len(p)-1] }

func (p rats) monic() rats {
	if len(p) == 0 {
		return p
	}
	return p.by(new(big.Rat).Inv(p.top()))
}

// xTo is a power of x.
func xTo(n int) rats {
	p := rats{}
	for range n {
		p = append(p, new(big.Rat))
	}
	return append(p, big.NewRat(1, 1))
}

func (p rats) divide(q rats) (rats, rats) {
	quotient := rats{}
	for len(p) >= len(q) {
		term := xTo(len(p) - len(q)).by(new(big.Rat).Quo(p.top(), q.top()))
		quotient = quotient.plusTimes(term, big.NewRat(1, 1))
		p = p.plusTimes(term.times(q), big.NewRat(-1, 1))
	}
	return quotient, p
}

func (p rats) gcd(q rats) rats {
	for len(q) > 0 {
		_, rest := p.divide(q)
		p, q = q, rest.monic()
	}
	return p.monic()
}

// bezout returns s and t for two polynomials that are not 0. Any s will do before it is reduced.
func (p rats) bezout(q rats) (rats, rats) {
	one, minusOne := big.NewRat(1, 1), big.NewRat(-1, 1)
	a, b, s, next := p, q, rats{one}, rats{}
	for len(b) > 0 {
		quotient, rest := a.divide(b)
		a, b, s, next = b, rest, next, s.plusTimes(quotient.times(next), minusOne)
	}
	g := a.monic()
	s = s.by(new(big.Rat).Inv(a.top()))
	part, _ := q.divide(g)
	_, s = s.divide(part)
	t, _ := g.plusTimes(s.times(p), minusOne).divide(q)
	return s, t
}

// resultant is the determinant of Sylvester's matrix: rows of the coefficients of p and of q, the greatest power first.
func (p rats) resultant(q rats) *big.Rat {
	m, n := len(p)-1, len(q)-1
	matrix := make([]rats, 0, m+n)
	row := func(p rats, shift int) {
		line := make(rats, m+n)
		for i := range line {
			line[i] = new(big.Rat)
			if k := len(p) - 1 - (i - shift); i >= shift && k >= 0 {
				line[i].Set(p[k])
			}
		}
		matrix = append(matrix, line)
	}
	for i := range n {
		row(p, i)
	}
	for i := range m {
		row(q, i)
	}
	return determinant(matrix)
}

// determinant changes the matrix.
func determinant(matrix []rats) *big.Rat {
	value := big.NewRat(1, 1)
	for i := range matrix {
		pivot := slices.IndexFunc(matrix[i:], func(row rats) bool { return row[i].Sign() != 0 })
		if pivot < 0 {
			return new(big.Rat)
		}
		if pivot > 0 {
			matrix[i], matrix[i+pivot] = matrix[i+pivot], matrix[i]
			value.Neg(value)
		}
		value.Mul(value, matrix[i][i])
		for k := i + 1; k < len(matrix); k++ {
			factor := new(big.Rat).Quo(matrix[k][i], matrix[i][i])
			for j := i; j < len(matrix); j++ {
				matrix[k][j].Sub(matrix[k][j], new(big.Rat).Mul(factor, matrix[i][j]))
			}
		}
	}
	return value
}

// at is the sum of all coefficients, each times its power of x.
func (p rats) at(x *big.Rat) *big.Rat {
	sum, power := new(big.Rat), big.NewRat(1, 1)
	for _, c := range p {
		sum.Add(sum, new(big.Rat).Mul(c, power))
		power = new(big.Rat).Mul(power, x)
	}
	return sum
}

// with is the sum of all coefficients, each times its power of q.
func (p rats) with(q rats) rats {
	sum, power := rats{}, rats{big.NewRat(1, 1)}
	for _, c := range p {
		sum = sum.plusTimes(power, c)
		power = power.times(q)
	}
	return sum
}

func (p rats) derivative() rats {
	slope := rats{}
	for i := 1; i < len(p); i++ {
		slope = append(slope, new(big.Rat).Mul(big.NewRat(int64(i), 1), p[i]))
	}
	return slope
}

func (p rats) squareFree() rats {
	free, _ := p.divide(p.gcd(p.derivative()))
	return free.monic()
}

// powerOfX multiplies by x and takes the remainder, one power after another.
func (p rats) powerOfX(n int) rats {
	_, rest := rats{big.NewRat(1, 1)}.divide(p)
	for range n {
		_, rest = xTo(1).times(rest).divide(p)
	}
	return rest
}

// through solves, by Cramer's rule, the linear equations that the values make for the coefficients; the numbers xs are different.
func through(xs, ys rats) rats {
	matrix := func(column int) []rats {
		rows := []rats{}
		for i, x := range xs {
			row, power := rats{}, big.NewRat(1, 1)
			for range xs {
				row = append(row, new(big.Rat).Set(power))
				power.Mul(power, x)
			}
			if column >= 0 {
				row[column].Set(ys[i])
			}
			rows = append(rows, row)
		}
		return rows
	}
	p, size := rats{}, determinant(matrix(-1))
	for i := range xs {
		p = append(p, new(big.Rat).Quo(determinant(matrix(i)), size))
	}
	return p.cut()
}

var termForm = regexp.MustCompile(`^([+-]?)([0-9/]*)(x?)(?:\^([0-9]+))?`)

// poly reads a text that a test writes: terms with falling powers.
func poly(s string) []string {
	p := rats{}
	for s != "" {
		parts := termForm.FindStringSubmatch(s)
		if parts[0] == "" {
			panic("not a polynomial: " + s)
		}
		s = s[len(parts[0]):]
		power := len(parts[3])
		if parts[4] != "" {
			power, _ = strconv.Atoi(parts[4])
		}
		if parts[2] == "" {
			parts[2] = "1"
		}
		p = p.plusTimes(xTo(power), ratOf(parts[1]+parts[2]))
	}
	list := []string{}
	for _, c := range p {
		list = append(list, c.RatString())
	}
	return list
}

// polyText joins terms with signs, and then repairs what is not written.
func polyText(list []string) string {
	text := ""
	for i := len(list) - 1; i >= 0; i-- {
		c := ratOf(list[i])
		if c.Sign() == 0 {
			continue
		}
		text += map[int]string{1: "+", -1: "-"}[c.Sign()]
		term := new(big.Rat).Abs(c).RatString() + "x^" + strconv.Itoa(i) + ";"
		term = strings.Replace(term, "x^0;", ";", 1)
		term = strings.Replace(term, "x^1;", "x;", 1)
		if strings.HasPrefix(term, "1x") {
			term = term[1:]
		}
		text += strings.TrimSuffix(term, ";")
	}
	if text == "" {
		return "0"
	}
	return strings.TrimPrefix(text, "+")
}

var wholeForm = regexp.MustCompile(`^-?([0-9/]*x(\^[0-9]+)?|[0-9/]+)([+-]([0-9/]*x(\^[0-9]+)?|[0-9/]+))*$`)

// isPolyText takes a text apart and judges its terms.
func isPolyText(s string) bool {
	if s == "0" {
		return true
	}
	if !wholeForm.MatchString(s) {
		return false
	}
	last := degreeLimit + 1
	for s != "" {
		parts := termForm.FindStringSubmatch(s)
		s = s[len(parts[0]):]
		coefficient, power := parts[2], len(parts[3])
		if parts[4] != "" {
			power, _ = strconv.Atoi(parts[4])
			if power < 2 || parts[4][0] == '0' {
				return false
			}
		}
		if power > 0 && coefficient == "1" || coefficient == "0" || power >= last {
			return false
		}
		if coefficient != "" && !isNumberText(coefficient) {
			return false
		}
		last = power
	}
	return true
}

// wantPoly checks a result that is a polynomial; the wanted text "" means that the function fails.
func wantPoly(t *testing.T, what string, got []string, ok bool, want string) {
	t.Helper()
	if want == "" {
		if ok || len(got) != 0 {
			t.Errorf("%s: got %q, %v, want a failure", what, got, ok)
		}
		return
	}
	if !ok || !isPolyList(got) || polyText(got) != want {
		t.Errorf("%s: got %q, %v, want %s", what, got, ok, want)
	}
}

// wantRats checks a result against the oracle.
func wantRats(t *testing.T, what string, got []string, ok bool, want rats) {
	t.Helper()
	list, fits := listOf(want)
	if ok != fits || !slices.Equal(got, list) {
		t.Errorf("%s: got %q, %v, want %q, %v", what, got, ok, list, fits)
	}
}

// smallPoly has small coefficients, of which many are 0; it may be 0.
func smallPoly(random *rand.Rand, degree int) []string {
	p := rats{}
	for range random.IntN(degree + 2) {
		c := big.NewRat(int64(random.IntN(13)-6), int64(1+random.IntN(4)*random.IntN(2)))
		if random.IntN(4) == 0 {
			c.SetInt64(0)
		}
		p = append(p, c)
	}
	list, _ := listOf(p.cut())
	return list
}

// greatPoly has coefficients with many digits.
func greatPoly(random *rand.Rand, degree int) []string {
	p := rats{}
	for range random.IntN(degree + 2) {
		p = append(p, ratOf(randomNumber(random)))
	}
	list, _ := listOf(p.cut())
	return list
}
