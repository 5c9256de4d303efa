package tests

import (
	"fmt"
	"math/big"
	"math/rand/v2"
	"slices"
	"testing"

	"loop.example/g01120/impl"
)

// What operations on sequences are, in another way than the program's: their terms, one by one with fractions of math/big, and linear equations for the shortest recurrence of these.

// These limits are written out, so that wrong constants of the program are found.
const (
	shiftLimit = 16
	stepLimit  = 4
	wovenLimit = 4
)

// algebraArguments are those that a function of the chapter can take.
type algebraArguments struct {
	r, s  impl.Recurrence
	a     string
	n     int64
	step  int64
	list  []string
	woven []impl.Recurrence
}

// An algebraCall calls a function with those of the arguments that it takes. What it requires of them is told by fits; then, terms are those of the sequence that it makes, more than are needed to decide what its recurrence is, or nothing if there is no such sequence.
type algebraCall struct {
	name  string
	fits  func(a algebraArguments) bool
	run   func(a algebraArguments) (impl.Recurrence, bool)
	terms func(a algebraArguments) rats
}

// enough is more than how many terms decide whether a sequence with a recurrence of some order has one of a small order.
func enough(order int) int { return order + orderLimit + 2 }

func algebraCalls() []algebraCall {
	one := func(a algebraArguments) bool { return isRecurrence(a.r) }
	both := func(a algebraArguments) bool { return isRecurrence(a.r) && isRecurrence(a.s) }
	factor := func(a algebraArguments) bool { return isRecurrence(a.r) && isNumberText(a.a) }
	shift := func(a algebraArguments) bool { return isRecurrence(a.r) && a.n >= 0 && a.n <= shiftLimit }
	return []algebraCall{
		{"AddSequences", both, func(a algebraArguments) (impl.Recurrence, bool) { return impl.AddSequences(a.r, a.s) }, func(a algebraArguments) rats {
			return termwise(a, enough(len(a.r.Start)+len(a.s.Start)), (*big.Rat).Add)
		}},
		{"SubSequences", both, func(a algebraArguments) (impl.Recurrence, bool) { return impl.SubSequences(a.r, a.s) }, func(a algebraArguments) rats {
			return termwise(a, enough(len(a.r.Start)+len(a.s.Start)), (*big.Rat).Sub)
		}},
		{"MulSequences", both, func(a algebraArguments) (impl.Recurrence, bool) { return impl.MulSequences(a.r, a.s) }, func(a algebraArguments) rats {
			return termwise(a, enough(len(a.r.Start)*len(a.s.Start)), (*big.Rat).Mul)
		}},
		{"ConvolveSequences", both, func(a algebraArguments) (impl.Recurrence, bool) { return impl.ConvolveSequences(a.r, a.s) }, convolution},
		{"ScaleSequence", factor, func(a algebraArguments) (impl.Recurrence, bool) { return impl.ScaleSequence(a.r, a.a) }, func(a algebraArguments) rats {
			return timesPowers(a.r, ratOf(a.a), big.NewRat(1, 1))
		}},
		{"TwistSequence", factor, func(a algebraArguments) (impl.Recurrence, bool) { return impl.TwistSequence(a.r, a.a) }, func(a algebraArguments) rats {
			return timesPowers(a.r, big.NewRat(1, 1), ratOf(a.a))
		}},
		{"ShiftSequence", shift, func(a algebraArguments) (impl.Recurrence, bool) { return impl.ShiftSequence(a.r, a.n) }, func(a algebraArguments) rats {
			return termsOf(a.r, int(a.n)+enough(len(a.r.Start)))[a.n:]
		}},
		{"PrependTerms", func(a algebraArguments) bool {
			return isRecurrence(a.r) && len(a.list) <= orderLimit && areNumbers(a.list)
		}, func(a algebraArguments) (impl.Recurrence, bool) { return impl.PrependTerms(a.r, a.list) }, func(a algebraArguments) rats {
			return append(ratsOf(a.list), termsOf(a.r, enough(len(a.r.Start)))...)
		}},
		{"SumsOf", one, func(a algebraArguments) (impl.Recurrence, bool) { return impl.SumsOf(a.r) }, sumsOf},
		{"DifferencesOf", one, func(a algebraArguments) (impl.Recurrence, bool) { return impl.DifferencesOf(a.r) }, differencesOf},
		{"EveryOf", func(a algebraArguments) bool { return shift(a) && a.step >= 1 && a.step <= stepLimit }, func(a algebraArguments) (impl.Recurrence, bool) { return impl.EveryOf(a.r, a.n, a.step) }, everyOf},
		{"WeaveSequences", func(a algebraArguments) bool {
			return len(a.woven) >= 1 && len(a.woven) <= wovenLimit && !slices.ContainsFunc(a.woven, func(r impl.Recurrence) bool { return !isRecurrence(r) })
		}, func(a algebraArguments) (impl.Recurrence, bool) { return impl.WeaveSequences(a.woven) }, inTurn},
		{"BackSequence", one, func(a algebraArguments) (impl.Recurrence, bool) { return impl.BackSequence(a.r) }, termsBack},
		{"PolySequence", func(a algebraArguments) bool { return isPolyList(a.list) && len(a.list) <= orderLimit }, func(a algebraArguments) (impl.Recurrence, bool) { return impl.PolySequence(a.list) }, func(a algebraArguments) rats {
			values := rats{}
			for n := range enough(orderLimit) {
				values = append(values, ratsOf(a.list).at(big.NewRat(int64(n), 1)))
			}
			return values
		}},
	}
}

// algebraCallOf returns the call of a function.
func algebraCallOf(name string) algebraCall {
	calls := algebraCalls()
	return calls[slices.IndexFunc(calls, func(call algebraCall) bool { return call.name == name })]
}

func termwise(a algebraArguments, count int, combine func(z, x, y *big.Rat) *big.Rat) rats {
	u, v, terms := termsOf(a.r, count), termsOf(a.s, count), rats{}
	for n := range count {
		terms = append(terms, combine(new(big.Rat), u[n], v[n]))
	}
	return terms
}

func convolution(a algebraArguments) rats {
	count := enough(len(a.r.Start) + len(a.s.Start))
	u, v, terms := termsOf(a.r, count), termsOf(a.s, count), rats{}
	for n := range count {
		sum := new(big.Rat)
		for i := range n + 1 {
			sum.Add(sum, new(big.Rat).Mul(u[i], v[n-i]))
		}
		terms = append(terms, sum)
	}
	return terms
}

// timesPowers multiplies by a number and by powers of another one.
func timesPowers(r impl.Recurrence, by, base *big.Rat) rats {
	terms, factor := rats{}, by
	for _, x := range termsOf(r, enough(len(r.Start))) {
		terms = append(terms, new(big.Rat).Mul(x, factor))
		factor = new(big.Rat).Mul(factor, base)
	}
	return terms
}

func sumsOf(a algebraArguments) rats {
	terms, sum := rats{}, new(big.Rat)
	for _, x := range termsOf(a.r, enough(len(a.r.Start)+1)) {
		sum = new(big.Rat).Add(sum, x)
		terms = append(terms, sum)
	}
	return terms
}

func differencesOf(a algebraArguments) rats {
	u, terms := termsOf(a.r, 1+enough(len(a.r.Start))), rats{}
	for n, x := range u[1:] {
		terms = append(terms, new(big.Rat).Sub(x, u[n]))
	}
	return terms
}

func everyOf(a algebraArguments) rats {
	count, terms := enough(len(a.r.Start)), rats{}
	u := termsOf(a.r, int(a.n)+count*int(a.step))
	for n := range count {
		terms = append(terms, u[int(a.n)+n*int(a.step)])
	}
	return terms
}

// inTurn takes the next term of one sequence after another.
func inTurn(a algebraArguments) rats {
	order, rounds := 0, []rats{}
	for _, r := range a.woven {
		order += len(r.Start)
	}
	for _, r := range a.woven {
		rounds = append(rounds, termsOf(r, enough(order)))
	}
	terms := rats{}
	for n := range enough(order) {
		for _, round := range rounds {
			terms = append(terms, round[n])
		}
	}
	return terms
}

// termsBack goes back with the minimal recurrence, one term after another.
func termsBack(a algebraArguments) rats {
	coeffs, found := shortest(termsOf(a.r, 2*len(a.r.Start)))
	if !found {
		panic("the recurrence itself is found at last")
	}
	order, terms := len(coeffs), rats{}
	if order > 0 && coeffs[order-1].Sign() == 0 {
		return nil
	}
	state := termsOf(a.r, order)
	for len(terms) < enough(orderLimit) {
		if order == 0 {
			terms = append(terms, new(big.Rat))
			continue
		}
		terms = append(terms, state[0])
		before := state[order-1]
		for i, c := range coeffs[:order-1] {
			before = new(big.Rat).Sub(before, new(big.Rat).Mul(c, state[order-2-i]))
		}
		state = append(rats{new(big.Rat).Quo(before, coeffs[order-1])}, state[:order-1]...)
	}
	return terms
}

// leastText is the text of the shortest recurrence of terms, and "" if there is none or it has too many digits. It is found with the first terms, and must be right for all others.
func leastText(terms rats) string {
	coeffs, found := shortest(terms[:min(len(terms), 2*orderLimit)])
	if !found {
		return ""
	}
	for n := len(coeffs); n < len(terms); n++ {
		sum := new(big.Rat)
		for i, c := range coeffs {
			sum.Add(sum, new(big.Rat).Mul(c, terms[n-1-i]))
		}
		if sum.Cmp(terms[n]) != 0 {
			return ""
		}
	}
	start, startFits := numbersOf(terms[:len(coeffs)])
	texts, coeffsFit := numbersOf(coeffs)
	if !startFits || !coeffsFit {
		return ""
	}
	return listText(start) + ";" + listText(texts)
}

// wantedText is the text of the result of a call, and "" if it fails.
func (call algebraCall) wantedText(a algebraArguments) string {
	if !call.fits(a) {
		return ""
	}
	terms := call.terms(a)
	if terms == nil {
		return ""
	}
	return leastText(terms)
}

func (a algebraArguments) String() string {
	woven := []string{}
	for _, r := range a.woven {
		woven = append(woven, recText(r))
	}
	return fmt.Sprintf("%.400s, %.400s, a %.130q, n %d, step %d, list %.400q, woven %.800q", recText(a.r), recText(a.s), a.a, a.n, a.step, a.list, woven)
}

// checkAlgebra compares a function with the oracle.
func checkAlgebra(t *testing.T, name string, a algebraArguments) {
	t.Helper()
	call := algebraCallOf(name)
	got, ok := call.run(a)
	wantRecurrence(t, name+" of "+a.String(), got, ok, call.wantedText(a))
}

// wantAlgebra compares a function with what a test wants, which the oracle must confirm.
func wantAlgebra(t *testing.T, name string, a algebraArguments, want string) {
	t.Helper()
	call := algebraCallOf(name)
	if found := call.wantedText(a); found != want {
		t.Errorf("the test wants %q of %s of %s, which is %q", want, name, a, found)
	}
	got, ok := call.run(a)
	wantRecurrence(t, name+" of "+a.String(), got, ok, want)
}

var twoNames = []string{"AddSequences", "SubSequences", "MulSequences", "ConvolveSequences"}

// checkTwo compares all functions of two sequences with the oracle.
func checkTwoSequences(t *testing.T, r, s impl.Recurrence) {
	t.Helper()
	for _, name := range twoNames {
		checkAlgebra(t, name, algebraArguments{r: r, s: s})
	}
}

// checkOne compares all functions of one sequence with the oracle.
func checkOneSequence(t *testing.T, a algebraArguments) {
	t.Helper()
	for _, call := range algebraCalls() {
		if !slices.Contains(twoNames, call.name) && call.name != "WeaveSequences" && call.name != "PolySequence" {
			checkAlgebra(t, call.name, a)
		}
	}
}

// oneArguments are arguments for functions of one sequence.
func oneArguments(random *rand.Rand, r impl.Recurrence) algebraArguments {
	list := smallRecurrence(random, random.IntN(orderLimit+1)).Start
	return algebraArguments{r: r, a: big.NewRat(int64(random.IntN(11)-5), int64(1+random.IntN(4))).RatString(), n: random.Int64N(shiftLimit + 1), step: 1 + random.Int64N(stepLimit), list: list}
}
