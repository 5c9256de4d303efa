package impl

import (
	"cmp"
	"errors"
	"math/bits"
	"strconv"
	"strings"
)

// Limits of chapter 1.
const (
	MaxDigits  = 60
	MaxItems   = 60
	MaxPower   = 60
	MaxSmall   = 1000000000000000
	MaxDivisor = 1000000000
)

// IsNumber reports whether s is a number.
func IsNumber(s string) bool {
	_, err := readRatio(s)
	return err == nil
}

// IsInteger reports whether s is an integer.
func IsInteger(s string) bool {
	_, err := readInteger(s)
	return err == nil
}

// IsNumbers reports whether list are numbers.
func IsNumbers(list []string) bool {
	_, err := readRatios(list)
	return err == nil
}

// NumberOf returns the number n.
func NumberOf(n int64) string {
	return strconv.FormatInt(n, 10)
}

// SmallOf returns the small integer that a number is.
func SmallOf(s string) (int64, bool) {
	x, err := readInteger(s)
	if err != nil || x.size.compare(natural{MaxSmall}) > 0 {
		return 0, false
	}
	if x.size.isZero() {
		return 0, true
	}
	small := int64(x.size[0])
	if x.negative {
		small = -small
	}
	return small, true
}

// AddNumbers returns a + b.
func AddNumbers(a, b string) (string, bool) {
	return combineNumbers(a, b, ratio.plus)
}

// SubNumbers returns a - b.
func SubNumbers(a, b string) (string, bool) {
	return combineNumbers(a, b, ratio.minus)
}

// MulNumbers returns a times b.
func MulNumbers(a, b string) (string, bool) {
	return combineNumbers(a, b, ratio.times)
}

// DivNumbers returns a / b.
func DivNumbers(a, b string) (string, bool) {
	x, y, err := readTwoRatios(a, b)
	if err != nil || y.isZero() {
		return "", false
	}
	return x.dividedBy(y).text()
}

// CompareNumbers compares a and b.
func CompareNumbers(a, b string) (int64, bool) {
	x, y, err := readTwoRatios(a, b)
	if err != nil {
		return 0, false
	}
	return int64(x.compare(y)), true
}

// FloorOf returns the greatest integer that is at most a.
func FloorOf(a string) (string, bool) {
	x, err := readRatio(a)
	if err != nil {
		return "", false
	}
	return ratioOf(x.floor()).text()
}

// PowerOf returns a power of a.
func PowerOf(a string, n int64) (string, bool) {
	x, err := readRatio(a)
	if err != nil || n < 0 || n > MaxPower {
		return "", false
	}
	return x.power(int(n)).text()
}

// GcdOf returns the greatest common divisor of two integers.
func GcdOf(a, b string) (string, bool) {
	x, err := readInteger(a)
	if err != nil {
		return "", false
	}
	y, err := readInteger(b)
	if err != nil {
		return "", false
	}
	return ratioOf(integerOf(false, commonDivisor(x.size, y.size))).text()
}

// RemainderOf returns the remainder of an integer.
func RemainderOf(a string, m int64) (int64, bool) {
	x, err := readInteger(a)
	if err != nil || m < 1 || m > MaxDivisor {
		return 0, false
	}
	return int64(x.remainder(uint64(m))), true
}

// SumNumbers returns the sum of numbers.
func SumNumbers(list []string) (string, bool) {
	numbers, err := readRatios(list)
	if err != nil {
		return "", false
	}
	sum := ratioOf(integer{})
	for _, x := range numbers {
		sum = sum.plus(x)
	}
	return sum.text()
}

// DotNumbers returns the sum of products.
func DotNumbers(a, b []string) (string, bool) {
	left, err := readRatios(a)
	if err != nil {
		return "", false
	}
	right, err := readRatios(b)
	if err != nil || len(left) != len(right) {
		return "", false
	}
	sum := ratioOf(integer{})
	for i, x := range left {
		sum = sum.plus(x.times(right[i]))
	}
	return sum.text()
}

// emptyListText cannot be mistaken for an element, because no number has letters.
const emptyListText = "none"

// NumbersText returns the text of numbers.
func NumbersText(list []string) (string, bool) {
	if !IsNumbers(list) {
		return "", false
	}
	if len(list) == 0 {
		return emptyListText, true
	}
	return strings.Join(list, ","), true
}

// ReadNumbers returns the numbers with the given text.
func ReadNumbers(s string) ([]string, bool) {
	list := []string{}
	if s == emptyListText {
		return list, true
	}
	for more := true; more; {
		var item string
		item, s, more = strings.Cut(s, ",")
		if len(list) == MaxItems || !IsNumber(item) {
			return nil, false
		}
		list = append(list, strings.Clone(item))
	}
	return list, true
}

// combineNumbers reads two numbers and returns the text of what apply makes of them.
func combineNumbers(a, b string, apply func(x, y ratio) ratio) (string, bool) {
	x, y, err := readTwoRatios(a, b)
	if err != nil {
		return "", false
	}
	return apply(x, y).text()
}

// Reading

// maxNumberText is the length of the longest number: a sign, MaxDigits digits, a slash and MaxDigits digits.
const maxNumberText = 2*MaxDigits + 2

var (
	errForm = errors.New("not the text of a number")
	errSize = errors.New("too many digits or items")
)

// stopError tells which rune that is no digit ends a run of digits, and the offset in bytes where it stands.
type stopError struct {
	at    int
	found rune
}

func (e *stopError) Error() string {
	return "no digit at byte " + strconv.Itoa(e.at) + ": " + strconv.QuoteRune(e.found)
}

// readRatio reads a number. Its length is looked at first, so that a very long text costs no time.
func readRatio(s string) (ratio, error) {
	if len(s) > maxNumberText {
		return ratio{}, errSize
	}
	digits, negative := strings.CutPrefix(s, "-")
	size, err := readDigits(digits)
	var stop *stopError
	if errors.As(err, &stop) && stop.found == '/' {
		return readFraction(negative, digits[:stop.at], digits[stop.at+1:])
	}
	if err != nil {
		return ratio{}, err
	}
	if negative && size.isZero() {
		return ratio{}, errForm
	}
	return ratioOf(integerOf(negative, size)), nil
}

// readFraction reads the digits above and below a slash. The fraction 0 needs no check of its own: the common divisor of 0 and the denominator is the denominator.
func readFraction(negative bool, aboveDigits, belowDigits string) (ratio, error) {
	above, err := readDigits(aboveDigits)
	if err != nil {
		return ratio{}, err
	}
	below, err := readDigits(belowDigits)
	if err != nil {
		return ratio{}, err
	}
	if below.isZero() || below.isOne() || !commonDivisor(above, below).isOne() {
		return ratio{}, errForm
	}
	return ratio{above: integerOf(negative, above), below: below}, nil
}

// readDigits reads 1 to MaxDigits digits without leading zeros; at the first rune that is no digit it fails with a stopError.
func readDigits(s string) (natural, error) {
	for i, r := range s {
		if r < '0' || r > '9' {
			return nil, &stopError{at: i, found: r}
		}
	}
	if s == "" || len(s) > 1 && s[0] == '0' {
		return nil, errForm
	}
	if len(s) > MaxDigits {
		return nil, errSize
	}
	return naturalOfDigits(s), nil
}

func readInteger(s string) (integer, error) {
	x, err := readRatio(s)
	if err != nil {
		return integer{}, err
	}
	if !x.below.isOne() {
		return integer{}, errForm
	}
	return x.above, nil
}

func readTwoRatios(a, b string) (ratio, ratio, error) {
	x, err := readRatio(a)
	if err != nil {
		return ratio{}, ratio{}, err
	}
	y, err := readRatio(b)
	if err != nil {
		return ratio{}, ratio{}, err
	}
	return x, y, nil
}

func readRatios(list []string) ([]ratio, error) {
	if len(list) > MaxItems {
		return nil, errSize
	}
	numbers := make([]ratio, 0, len(list))
	for _, s := range list {
		x, err := readRatio(s)
		if err != nil {
			return nil, err
		}
		numbers = append(numbers, x)
	}
	return numbers, nil
}

// Rational numbers

// A ratio is a rational number of any size in lowest terms, with a positive denominator; its zero value is no number.
type ratio struct {
	above integer
	below natural
}

func ratioOf(x integer) ratio {
	return ratio{above: x, below: natural{1}}
}

// limitedRatio returns above / below in lowest terms, which is the last convergent of its continued fraction; below is not 0. It fails, and does so before long, if there are many more than MaxDigits digits: no convergent has more digits than the last one.
func limitedRatio(above, below integer) (ratio, bool) {
	rest, divisor := above.size, below.size
	p, q := natural{1}, natural{}
	pBefore, qBefore := natural{}, natural{1}
	for !divisor.isZero() {
		quotient, remainder := rest.divide(divisor)
		p, pBefore = p.times(quotient).plus(pBefore), p
		q, qBefore = q.times(quotient).plus(qBefore), q
		if len(p) > maxNumberLimbs || len(q) > maxNumberLimbs {
			return ratio{}, false
		}
		rest, divisor = divisor, remainder
	}
	return ratio{above: integerOf(above.negative != below.negative, p), below: q}, true
}

func (a ratio) isZero() bool {
	return a.above.isZero()
}

// zero returns 0, also for the zero value.
func (a ratio) zero() ratio {
	return ratioOf(integer{})
}

func (a ratio) negated() ratio {
	return ratio{above: a.above.negated(), below: a.below}
}

// plus divides by the common divisor of the denominators first: what is left to cancel then divides it, so that all divisors that are computed are as small as possible.
func (a ratio) plus(b ratio) ratio {
	shared := commonDivisor(a.below, b.below)
	aPart, bPart := a.below.over(shared), b.below.over(shared)
	above := a.above.scaled(bPart).plus(b.above.scaled(aPart))
	rest := commonDivisor(above.size, shared)
	return ratio{above: above.over(rest), below: aPart.times(b.below.over(rest))}
}

func (a ratio) minus(b ratio) ratio {
	return a.plus(b.negated())
}

// times cancels crosswise before it multiplies; as both factors are in lowest terms, nothing else cancels.
func (a ratio) times(b ratio) ratio {
	first, second := commonDivisor(a.above.size, b.below), commonDivisor(b.above.size, a.below)
	return ratio{
		above: a.above.over(first).times(b.above.over(second)),
		below: a.below.over(second).times(b.below.over(first)),
	}
}

// inverse returns 1 / a; a is not 0.
func (a ratio) inverse() ratio {
	return ratio{above: integerOf(a.above.negative, a.below), below: a.above.size}
}

// dividedBy returns a / b; b is not 0.
func (a ratio) dividedBy(b ratio) ratio {
	return a.times(b.inverse())
}

func (a ratio) compare(b ratio) int {
	return a.above.scaled(b.below).compare(b.above.scaled(a.below))
}

func (a ratio) floor() integer {
	quotient, remainder := a.above.size.divide(a.below)
	if a.above.negative && !remainder.isZero() {
		quotient = quotient.plus(natural{1})
	}
	return integerOf(a.above.negative, quotient)
}

func (a ratio) power(n int) ratio {
	return ratio{above: a.above.power(n), below: a.below.power(n)}
}

// text fails if there are more than MaxDigits digits above or below.
func (a ratio) text() (string, bool) {
	above, fits := a.above.size.digits()
	if !fits {
		return "", false
	}
	below, fits := a.below.digits()
	if !fits {
		return "", false
	}
	var out strings.Builder
	if a.above.negative {
		out.WriteByte('-')
	}
	out.WriteString(above)
	if !a.below.isOne() {
		out.WriteByte('/')
		out.WriteString(below)
	}
	return out.String(), true
}

// Integers

// An integer is of any size; 0 is not negative.
type integer struct {
	negative bool
	size     natural
}

func integerOf(negative bool, size natural) integer {
	return integer{negative: negative && !size.isZero(), size: size}
}

func smallInteger(n uint64) integer {
	return integerOf(false, trimmed([]uint64{n}))
}

func (a integer) isZero() bool {
	return a.size.isZero()
}

// zero returns 0.
func (a integer) zero() integer {
	return integer{}
}

func (a integer) negated() integer {
	return integerOf(!a.negative, a.size)
}

func (a integer) plus(b integer) integer {
	if a.negative == b.negative {
		return integerOf(a.negative, a.size.plus(b.size))
	}
	if a.size.compare(b.size) < 0 {
		a, b = b, a
	}
	return integerOf(a.negative, a.size.minus(b.size))
}

func (a integer) times(b integer) integer {
	return integerOf(a.negative != b.negative, a.size.times(b.size))
}

func (a integer) power(n int) integer {
	return integerOf(a.negative && n%2 == 1, a.size.power(n))
}

func (a integer) scaled(by natural) integer {
	return integerOf(a.negative, a.size.times(by))
}

// over divides by one of the divisors of a.
func (a integer) over(divisor natural) integer {
	return integerOf(a.negative, a.size.over(divisor))
}

// dividedBy returns a / b, which must be an integer; b is not 0.
func (a integer) dividedBy(b integer) integer {
	return integerOf(a.negative != b.negative, a.size.over(b.size))
}

func (a integer) compare(b integer) int {
	if a.negative != b.negative {
		if a.negative {
			return -1
		}
		return 1
	}
	if a.negative {
		return b.size.compare(a.size)
	}
	return a.size.compare(b.size)
}

// remainder returns the remainder from 0 to m - 1, also for a negative integer.
func (a integer) remainder(m uint64) uint64 {
	rest := a.size.remainderSmall(m)
	if a.negative && rest > 0 {
		return m - rest
	}
	return rest
}

// Natural numbers

// A natural is a natural number of any size: its limbs of 64 bits, the lowest one first, without zeros at the end. The limbs are never changed once it is made, so that naturals may share them.
type natural []uint64

const (
	maxLimb = 1<<64 - 1

	// A chunk is as many digits as a limb can hold.
	chunkDigits = 19
	chunkSize   = 10000000000000000000

	// maxNumberLimbs is enough for each natural with MaxDigits digits, as ten to the power of 60 is less than two to the power of 256.
	maxNumberLimbs = 4
)

func trimmed(limbs []uint64) natural {
	for len(limbs) > 0 && limbs[len(limbs)-1] == 0 {
		limbs = limbs[:len(limbs)-1]
	}
	return limbs
}

func (a natural) isZero() bool {
	return len(a) == 0
}

func (a natural) isOne() bool {
	return len(a) == 1 && a[0] == 1
}

// bitLength returns the number of bits without leading zeros.
func (a natural) bitLength() int {
	if a.isZero() {
		return 0
	}
	return 64*(len(a)-1) + bits.Len64(a[len(a)-1])
}

func (a natural) compare(b natural) int {
	if len(a) != len(b) {
		return cmp.Compare(len(a), len(b))
	}
	for i := len(a) - 1; i >= 0; i-- {
		if a[i] != b[i] {
			return cmp.Compare(a[i], b[i])
		}
	}
	return 0
}

func (a natural) plus(b natural) natural {
	if len(a) < len(b) {
		a, b = b, a
	}
	sum := make([]uint64, len(a)+1)
	copy(sum, a)
	var carry uint64
	for i := range a {
		var limb uint64
		if i < len(b) {
			limb = b[i]
		}
		sum[i], carry = bits.Add64(sum[i], limb, carry)
	}
	sum[len(a)] = carry
	return trimmed(sum)
}

// minus requires b to be at most a.
func (a natural) minus(b natural) natural {
	difference := make([]uint64, len(a))
	copy(difference, a)
	var borrow uint64
	for i := range a {
		var limb uint64
		if i < len(b) {
			limb = b[i]
		}
		difference[i], borrow = bits.Sub64(difference[i], limb, borrow)
	}
	return trimmed(difference)
}

func (a natural) times(b natural) natural {
	product := make([]uint64, len(a)+len(b))
	for i, limb := range a {
		product[i+len(b)] = addProduct(product[i:], b, limb)
	}
	return trimmed(product)
}

func (a natural) power(n int) natural {
	product := natural{1}
	for range n {
		product = product.times(a)
	}
	return product
}

// timesPlus returns a times factor plus extra.
func (a natural) timesPlus(factor, extra uint64) natural {
	product := make([]uint64, len(a)+1)
	product[0] = extra
	product[len(a)] += addProduct(product, a, factor)
	return trimmed(product)
}

// addProduct adds factor times b to as many limbs as b has, and returns the limb that is to be carried.
func addProduct(limbs []uint64, b natural, factor uint64) uint64 {
	var carry uint64
	for i, limb := range b {
		high, low := bits.Mul64(limb, factor)
		var more uint64
		low, more = bits.Add64(low, carry, 0)
		high += more
		limbs[i], more = bits.Add64(limbs[i], low, 0)
		carry = high + more
	}
	return carry
}

// takeProduct takes factor times b from as many limbs as b has, and returns the limb that is to be borrowed.
func takeProduct(limbs []uint64, b natural, factor uint64) uint64 {
	var borrow uint64
	for i, limb := range b {
		high, low := bits.Mul64(limb, factor)
		var more uint64
		low, more = bits.Add64(low, borrow, 0)
		high += more
		limbs[i], more = bits.Sub64(limbs[i], low, 0)
		borrow = high + more
	}
	return borrow
}

// divideSmall returns the quotient and the remainder; divisor is not 0.
func (a natural) divideSmall(divisor uint64) (natural, uint64) {
	quotient := make([]uint64, len(a))
	var rest uint64
	for i := len(a) - 1; i >= 0; i-- {
		quotient[i], rest = bits.Div64(rest, a[i], divisor)
	}
	return trimmed(quotient), rest
}

// remainderSmall returns the remainder; divisor is not 0.
func (a natural) remainderSmall(divisor uint64) uint64 {
	var rest uint64
	for i := len(a) - 1; i >= 0; i-- {
		_, rest = bits.Div64(rest, a[i], divisor)
	}
	return rest
}

// divide returns the quotient and the remainder; b is not 0. Both are shifted until the highest bit of the divisor is 1: only then is each guess of a limb close to it.
func (a natural) divide(b natural) (natural, natural) {
	if a.compare(b) < 0 {
		return nil, a
	}
	if len(b) == 1 {
		quotient, rest := a.divideSmall(b[0])
		return quotient, trimmed([]uint64{rest})
	}
	shift := bits.LeadingZeros64(b[len(b)-1])
	rest, divisor := shiftedUp(a, shift), trimmed(shiftedUp(b, shift))
	quotient := make([]uint64, len(a)-len(b)+1)
	for i := len(quotient) - 1; i >= 0; i-- {
		quotient[i] = takeMultiple(rest[i:i+len(divisor)+1], divisor)
	}
	return trimmed(quotient), trimmed(shiftedDown(rest, shift))
}

// takeMultiple leaves in rest its remainder divided by divisor, and returns the quotient, which is one limb. The guess from the highest limbs is at most 2 too great, so that the divisor is given back at most twice.
func takeMultiple(rest []uint64, divisor natural) uint64 {
	n := len(divisor)
	guess := uint64(maxLimb)
	if rest[n] < divisor[n-1] {
		guess, _ = bits.Div64(rest[n], rest[n-1], divisor[n-1])
	}
	var missing uint64
	rest[n], missing = bits.Sub64(rest[n], takeProduct(rest, divisor, guess), 0)
	for missing > 0 {
		guess--
		var carry uint64
		rest[n], carry = bits.Add64(rest[n], addProduct(rest, divisor, 1), 0)
		missing -= carry
	}
	return guess
}

// shiftedUp returns limbs that are shifted by 0 to 63 bits, with one limb more than a, which can be 0.
func shiftedUp(a natural, shift int) []uint64 {
	limbs := make([]uint64, len(a)+1)
	for i, limb := range a {
		limbs[i] |= limb << shift
		limbs[i+1] = limb >> (64 - shift)
	}
	return limbs
}

// shiftedDown returns limbs that are shifted down by 0 to 63 bits.
func shiftedDown(a []uint64, shift int) []uint64 {
	limbs := make([]uint64, len(a))
	for i, limb := range a {
		limbs[i] |= limb >> shift
		if i > 0 {
			limbs[i-1] |= limb << (64 - shift)
		}
	}
	return limbs
}

// over returns the quotient; divisor is not 0.
func (a natural) over(divisor natural) natural {
	if divisor.isOne() {
		return a
	}
	quotient, _ := a.divide(divisor)
	return quotient
}

// commonDivisor is Lehmer's algorithm: it does as many steps of Euclid's algorithm at once as the highest bits decide.
func commonDivisor(a, b natural) natural {
	if a.compare(b) < 0 {
		a, b = b, a
	}
	for len(b) > 1 {
		s := decidedSteps(a, b)
		if s.count > 0 {
			a, b = s.apply(a, b)
		} else {
			_, rest := a.divide(b)
			a, b = b, rest
		}
	}
	if b.isZero() {
		return a
	}
	return trimmed([]uint64{smallCommonDivisor(b[0], a.remainderSmall(b[0]))})
}

func smallCommonDivisor(a, b uint64) uint64 {
	for b > 0 {
		a, b = b, a%b
	}
	return a
}

// steps are some steps of Euclid's algorithm that begin with two numbers a and b. They end with two numbers, the first and the second; but for its sign, each is a multiple of a less a multiple of b. The signs change with each step.
type steps struct {
	count            int
	firstA, firstB   uint64
	secondA, secondB uint64
}

// decidedSteps returns steps whose quotients are decided by the highest 64 bits of a and the bits of b at the same places, by Collins's condition; a is at least b, and b has at least two limbs.
func decidedSteps(a, b natural) steps {
	shift := bits.LeadingZeros64(a[len(a)-1])
	first, second := a.bitsAt(len(a)-1, shift), b.bitsAt(len(a)-1, shift)
	decided := steps{firstA: 1, secondB: 1}
	next := decided
	for second >= next.secondB && first-second >= next.firstB+next.secondB {
		decided = next
		next = next.after(first / second)
		first, second = second, first%second
	}
	return decided
}

// bitsAt returns the 64 bits that begin shift bits below the top of the limb at i; behind the end of a, they are 0.
func (a natural) bitsAt(i, shift int) uint64 {
	var limb, below uint64
	if i < len(a) {
		limb = a[i]
	}
	if i-1 < len(a) {
		below = a[i-1]
	}
	return limb<<shift | below>>(64-shift)
}

// after returns the steps with one more, which has a quotient.
func (s steps) after(quotient uint64) steps {
	return steps{
		count:   s.count + 1,
		firstA:  s.secondA,
		firstB:  s.secondB,
		secondA: s.firstA + quotient*s.secondA,
		secondB: s.firstB + quotient*s.secondB,
	}
}

// apply returns the two numbers with which the steps end.
func (s steps) apply(a, b natural) (natural, natural) {
	firstA, firstB := a.timesPlus(s.firstA, 0), b.timesPlus(s.firstB, 0)
	secondA, secondB := a.timesPlus(s.secondA, 0), b.timesPlus(s.secondB, 0)
	if s.count%2 == 0 {
		return firstA.minus(firstB), secondB.minus(secondA)
	}
	return firstB.minus(firstA), secondA.minus(secondB)
}

// naturalOfDigits reads a chunk of digits at a time.
func naturalOfDigits(s string) natural {
	var value natural
	for s != "" {
		size := min(len(s), chunkDigits)
		chunk, power := uint64(0), uint64(1)
		for _, r := range s[:size] {
			chunk = 10*chunk + uint64(r-'0')
			power *= 10
		}
		value = value.timesPlus(power, chunk)
		s = s[size:]
	}
	return value
}

// digits fails if there are more than MaxDigits. The limbs are counted first, as the digits of a very great natural would take long.
func (a natural) digits() (string, bool) {
	if a.isZero() {
		return "0", true
	}
	if len(a) > maxNumberLimbs {
		return "", false
	}
	var chunks []uint64
	for !a.isZero() {
		var chunk uint64
		a, chunk = a.divideSmall(chunkSize)
		chunks = append(chunks, chunk)
	}
	last := len(chunks) - 1
	var out strings.Builder
	out.WriteString(strconv.FormatUint(chunks[last], 10))
	for i := last - 1; i >= 0; i-- {
		chunk := strconv.FormatUint(chunks[i], 10)
		out.WriteString(strings.Repeat("0", chunkDigits-len(chunk)))
		out.WriteString(chunk)
	}
	return out.String(), out.Len() <= MaxDigits
}
