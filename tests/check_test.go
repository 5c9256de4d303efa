package tests

import (
	"math/big"
	"reflect"
	"regexp"
	"slices"
	"strings"
	"testing"

	"loop.example/g01120/impl"
)

// Helpers for the tests of all chapters. The oracle for numbers is math/big, which the program itself does not use.

// digitLimit is written out, so that a wrong constant of the program is found.
const digitLimit = 60

func nines(count int) string { return strings.Repeat("9", count) }

func tenTo(power int) string { return "1" + strings.Repeat("0", power) }

// copies returns a list that has an item some times.
func copies(item string, count int) []string {
	return slices.Repeat([]string{item}, count)
}

var numberForm = regexp.MustCompile(`^(-?)(0|[1-9][0-9]*)(?:/([1-9][0-9]*))?$`)

// isNumberText says what a number is in another way than the program: its form, its digits, and that it is written as math/big writes it.
func isNumberText(s string) bool {
	if len(s) > 2*digitLimit+2 {
		return false
	}
	parts := numberForm.FindStringSubmatch(s)
	if parts == nil || len(parts[2]) > digitLimit || len(parts[3]) > digitLimit {
		return false
	}
	return ratOf(s).RatString() == s
}

func ratOf(s string) *big.Rat {
	r, ok := new(big.Rat).SetString(s)
	if !ok {
		panic("not a number: " + s)
	}
	return r
}

func intOf(s string) *big.Int {
	i, ok := new(big.Int).SetString(s, 10)
	if !ok {
		panic("not an integer: " + s)
	}
	return i
}

// textOf is the text of a result, and "" for one that has too many digits.
func textOf(r *big.Rat) string {
	if len(new(big.Int).Abs(r.Num()).String()) > digitLimit || len(r.Denom().String()) > digitLimit {
		return ""
	}
	return r.RatString()
}

// wantText checks a result that is a text; the wanted text "" means that the function fails.
func wantText(t *testing.T, what, got string, ok bool, want string) {
	t.Helper()
	if got != want || ok != (want != "") {
		t.Errorf("%s: got %q, %v, want %q", what, got, ok, want)
	}
}

// wantInt checks a result that is an integer.
func wantInt(t *testing.T, what string, got int64, ok bool, want int64, wantOK bool) {
	t.Helper()
	if got != want || ok != wantOK {
		t.Errorf("%s: got %d, %v, want %d, %v", what, got, ok, want, wantOK)
	}
}

// wantZeroOnFailure checks that all results before a last false are zero values.
func wantZeroOnFailure(t *testing.T, what string, results []any) {
	t.Helper()
	last, isBool := results[len(results)-1].(bool)
	if !isBool || last {
		return
	}
	for _, r := range results[:len(results)-1] {
		v := reflect.ValueOf(r)
		if !v.IsZero() && !(v.Kind() == reflect.Slice && v.Len() == 0) {
			t.Errorf("%s: fails, but returns %v", what, r)
		}
	}
}

// spare returns a list with unused capacity, and a copy of all of its memory.
func spare(items []string) ([]string, []string) {
	all := append(slices.Clone(items), "spare", "1", "")
	return all[:len(items)], slices.Clone(all)
}

// wantUntouched checks a list that spare made, with its unused capacity.
func wantUntouched(t *testing.T, what string, list, before []string) {
	t.Helper()
	if now := list[:len(before)]; !slices.Equal(now, before) {
		t.Errorf("%s: the argument was %q, and now is %q", what, before, now)
	}
}

// textsUpTo calls visit with all texts over an alphabet that have at most length bytes.
func textsUpTo(alphabet string, length int, visit func(s string)) {
	var extend func(s string)
	extend = func(s string) {
		visit(s)
		if len(s) == length {
			return
		}
		for _, letter := range alphabet {
			extend(s + string(letter))
		}
	}
	extend("")
}

func TestNumberLimits(t *testing.T) {
	got := []int64{impl.MaxDigits, impl.MaxItems, impl.MaxPower, impl.MaxSmall, impl.MaxDivisor}
	want := []int64{60, 60, 60, 1000000000000000, 1000000000}
	if !slices.Equal(got, want) {
		t.Errorf("got %v, want %v", got, want)
	}
}
