package tests

import (
	"fmt"
	"math"
	"reflect"
	"slices"
	"testing"

	"loop.example/g01120/impl"
)

// Promise 1 for the functions of chapter 4.

// farArguments are those that a function of the chapter can take.
type farArguments struct {
	r           impl.Recurrence
	n, count, m int64
	a, b        int64
}

// A farCall calls a function with those of the arguments that it takes; fits tells what it requires of them.
type farCall struct {
	name string
	fits func(a farArguments) bool
	run  func(a farArguments) []any
}

func farCalls() []farCall {
	one := func(x any) []any { return []any{x} }
	two := func(x, y any) []any { return []any{x, y} }
	three := func(x, y, z any) []any { return []any{x, y, z} }
	all := func(a farArguments) bool { return true }
	whole := func(a farArguments) bool { return isWhole(a.r) && isModulus(a.m) }
	far := func(a farArguments) bool { return whole(a) && isIndex(a.n) }
	exact := func(n int64) bool { return n >= 0 && n <= exactLimit }
	return []farCall{
		{"IsWhole", all, func(a farArguments) []any { return one(impl.IsWhole(a.r)) }},
		{"FarTerm", far, func(a farArguments) []any { return two(impl.FarTerm(a.r, a.n, a.m)) }},
		{"FarTerms", func(a farArguments) bool { return far(a) && a.count >= 0 && a.count <= termLimit }, func(a farArguments) []any { return two(impl.FarTerms(a.r, a.n, a.count, a.m)) }},
		{"FarSum", far, func(a farArguments) []any { return two(impl.FarSum(a.r, a.n, a.m)) }},
		{"BackTerm", func(a farArguments) bool { return whole(a) && exact(a.n) && backRests(a.r, 1, a.m) != nil }, func(a farArguments) []any { return two(impl.BackTerm(a.r, a.n, a.m)) }},
		{"PeriodOf", whole, func(a farArguments) []any { return three(impl.PeriodOf(a.r, a.m)) }},
		{"ResiduesOf", whole, func(a farArguments) []any { return two(impl.ResiduesOf(a.r, a.m)) }},
		{"ZeroPlaces", whole, func(a farArguments) []any { return two(impl.ZeroPlaces(a.r, a.m)) }},
		{"FirstZero", whole, func(a farArguments) []any { return two(impl.FirstZero(a.r, a.m)) }},
		{"FarExact", func(a farArguments) bool { return isRecurrence(a.r) && exact(a.n) }, func(a farArguments) []any { return two(impl.FarExact(a.r, a.n)) }},
		{"InverseOf", func(a farArguments) bool { return isModulus(a.m) && a.a >= 0 && a.a < a.m && inverseOf(a.a, a.m) > 0 }, func(a farArguments) []any { return two(impl.InverseOf(a.a, a.m)) }},
		{"JoinResidues", func(a farArguments) bool {
			return isModulus(a.m) && isModulus(a.n) && a.a >= 0 && a.a < a.m && a.b >= 0 && a.b < a.n && (a.a-a.b)%divisorOf(a.m, a.n) == 0
		}, func(a farArguments) []any { return three(impl.JoinResidues(a.a, a.m, a.b, a.n)) }},
	}
}

// mustSucceed are the functions that succeed whenever their arguments fit.
var mustSucceed = []string{"FarTerm", "FarTerms", "FarSum", "BackTerm", "InverseOf", "JoinResidues"}

// farCallsOf returns the calls of some functions.
func farCallsOf(names ...string) []farCall {
	return slices.DeleteFunc(farCalls(), func(call farCall) bool { return !slices.Contains(names, call.name) })
}

// checkFarCall calls a function twice with equal arguments, and once again after all memory of its first results was written over.
func checkFarCall(t *testing.T, call farCall, a farArguments, name string) {
	t.Helper()
	what := fmt.Sprintf("%s of %s, n %d, count %d, m %d, a %d, b %d", call.name, name, a.n, a.count, a.m, a.a, a.b)
	keep := keeper{}
	kept := a
	kept.r = impl.Recurrence{Start: keep.list(a.r.Start), Coeffs: keep.list(a.r.Coeffs)}
	first, second := call.run(kept), call.run(a)
	if !reflect.DeepEqual(first, second) {
		t.Errorf("%s: %v, then %v", what, first, second)
	}
	if !call.fits(a) {
		wantFailure(t, what, first)
	} else if first[len(first)-1] == false && slices.Contains(mustSucceed, call.name) {
		t.Errorf("%s: fails", what)
	}
	wantZeroOnFailure(t, what, first)
	for _, result := range first {
		if list, isList := result.([]int64); isList {
			for i := range list[:cap(list)] {
				list[:cap(list)][i] = math.MinInt64
			}
		}
	}
	if third := call.run(kept); !reflect.DeepEqual(second, third) {
		t.Errorf("%s: results of two calls share memory: %v, then %v", what, second, third)
	}
	keep.wantUntouched(t, what)
}

var hostileIntegers = []int64{math.MinInt64, math.MinInt64 + 1, -indexLimit, -1, 0, 1, 2, 3, 7, 8, 39, 40, 41, 199, 200, 201, 4999, 5000, farLimit - 1, farLimit, farLimit + 1, 1 << 32, 1<<32 + 7, indexLimit - 1, indexLimit, indexLimit + 1, math.MaxInt64 - 1, math.MaxInt64}

func hostileWholes() []impl.Recurrence {
	list := hostileRecurrences()
	for _, s := range []string{"0,1;1,1", "1,2;1/2,1", "7,7,7;0,0,0", "1,2,3,4,5,6,7,8;0,0,0,0,0,0,0,2", "-1,-2;-3,-4", "-" + nines(60) + ";-" + nines(60), "1,2,3;1,2", "0,0;6,10", "1;-1000000"} {
		list = append(list, rec(s))
	}
	return append(list, impl.Recurrence{Start: copies("-"+nines(60), 8), Coeffs: copies("-"+nines(60), 8)}, impl.Recurrence{Start: copies("1", 9), Coeffs: copies("1", 9)}, impl.Recurrence{Coeffs: copies("0", 8)})
}

func TestFarFunctionsReturnForAllArguments(t *testing.T) {
	t.Parallel()
	calls := farCallsOf("IsWhole", "FarTerm", "FarTerms", "FarSum", "BackTerm")
	for i, r := range hostileWholes() {
		for k, n := range hostileIntegers {
			for j, m := range hostileIntegers {
				a := farArguments{r: r, n: n, count: hostileIntegers[(i+k+j)%len(hostileIntegers)], m: m}
				for _, call := range calls {
					checkFarCall(t, call, a, fmt.Sprint("the recurrence ", i))
				}
			}
		}
	}
}

func TestPeriodsReturnForAllArguments(t *testing.T) {
	t.Parallel()
	for i, r := range hostileWholes() {
		for _, m := range hostileIntegers {
			for _, call := range farCallsOf("PeriodOf", "ResiduesOf", "ZeroPlaces", "FirstZero") {
				checkFarCall(t, call, farArguments{r: r, m: m}, fmt.Sprint("the recurrence ", i))
			}
		}
	}
}

// The recurrences with 8 fractions take longest.
func TestFarExactReturnsForAllArguments(t *testing.T) {
	t.Parallel()
	for i, r := range hostileWholes() {
		for _, n := range hostileIntegers {
			if n == 199 && len(recText(r)) > 1000 {
				continue
			}
			checkFarCall(t, farCallsOf("FarExact")[0], farArguments{r: r, n: n}, fmt.Sprint("the recurrence ", i))
		}
	}
}

func TestInversesReturnForAllArguments(t *testing.T) {
	for i, a := range hostileIntegers {
		for k, m := range hostileIntegers {
			checkFarCall(t, farCallsOf("InverseOf")[0], farArguments{a: a, m: m}, "numbers")
			for j, b := range hostileIntegers {
				n := hostileIntegers[(i+k+j)%len(hostileIntegers)]
				checkFarCall(t, farCallsOf("JoinResidues")[0], farArguments{a: a, m: m, b: b, n: n}, "numbers")
				checkFarCall(t, farCallsOf("JoinResidues")[0], farArguments{a: a, m: n, b: b, n: m}, "numbers")
			}
		}
	}
}

// Arguments that share memory with each other are no reason to go wrong.
func TestFarTermsWithSharedMemory(t *testing.T) {
	list, before := spare([]string{"1", "2", "3"})
	r := impl.Recurrence{Start: list[:2], Coeffs: list[1:]}
	same := rec("1,2;2,3")
	checkNear(t, r, 10, 1000)
	checkBack(t, r, 10, 1000)
	checkPeriod(t, r, 10)
	for n := range 10 {
		checkExact(t, r, n)
	}
	if recText(r) != recText(same) {
		t.Errorf("the recurrence became %s", recText(r))
	}
	wantUntouched(t, "all of them", list, before)
}
