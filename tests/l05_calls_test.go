package tests

import (
	"fmt"
	"math"
	"reflect"
	"slices"
	"testing"

	"loop.example/g01120/impl"
)

// Promise 1 for the functions of chapter 5.

// hostileAlgebra are recurrences for all functions of the chapter.
func hostileAlgebra() []impl.Recurrence {
	list := hostileRecurrences()
	for _, s := range []string{"0,0;1,0", "5,7;1,0", "7,7,7;0,0,0", "1,0;0,1", "0,1;0,-1", "1,1,1,1,1,1,1,1;0,0,0,0,0,0,0,1/" + nines(60), "-1;-" + nines(60) + "/" + tenTo(59), "0,1;1,1/1"} {
		list = append(list, rec(s))
	}
	great := copies("-"+tenTo(59)+"/"+nines(60), 8)
	return append(list, impl.Recurrence{Start: append(copies("0", 7), "1"), Coeffs: great}, impl.Recurrence{Start: copies("0", 8), Coeffs: great}, impl.Recurrence{Start: copies("0", 9), Coeffs: copies("0", 9)}, impl.Recurrence{Coeffs: copies("0", 8)}, impl.Recurrence{Start: copies("1", 7), Coeffs: copies("1", 8)})
}

// kept returns the same arguments with unused capacity everywhere, and the list of sequences with it.
func (a algebraArguments) kept(k *keeper) (algebraArguments, []impl.Recurrence) {
	keep := func(r impl.Recurrence) impl.Recurrence {
		return impl.Recurrence{Start: k.list(r.Start), Coeffs: k.list(r.Coeffs)}
	}
	a.r, a.s, a.list = keep(a.r), keep(a.s), k.list(a.list)
	all := []impl.Recurrence{}
	for _, r := range a.woven {
		all = append(all, keep(r))
	}
	all = append(all, keep(rec("7;7")), impl.Recurrence{})
	a.woven = all[:len(a.woven)]
	return a, all
}

// checkAlgebraCall calls a function twice with equal arguments, and once again after all memory of its first result was written over.
func checkAlgebraCall(t *testing.T, call algebraCall, a algebraArguments, name string) {
	t.Helper()
	what := fmt.Sprintf("%s of %s, a %.130q, n %d, step %d", call.name, name, a.a, a.n, a.step)
	keep := keeper{}
	kept, all := a.kept(&keep)
	before := slices.Clone(all)
	first, ok := call.run(kept)
	second, okSecond := call.run(a)
	if ok != okSecond || recText(first) != recText(second) {
		t.Errorf("%s: %s, %v, then %s, %v", what, recText(first), ok, recText(second), okSecond)
	}
	if ok && (!isRecurrence(first) || !call.fits(a)) {
		t.Errorf("%s: got %s", what, recText(first))
	}
	wantZeroOnFailure(t, what, []any{first.Start, first.Coeffs, ok})
	wantListsOfTheirOwn(t, what, []any{first})
	third, okThird := call.run(kept)
	if ok != okThird || recText(second) != recText(third) {
		t.Errorf("%s: results of two calls share memory: %s, then %s", what, recText(second), recText(third))
	}
	keep.wantUntouched(t, what)
	for i, r := range all {
		if !reflect.DeepEqual(r, before[i]) {
			t.Errorf("%s: the sequence %d of the list was exchanged", what, i)
		}
	}
}

// hostileShifts are numbers for shifts and steps.
var hostileShifts = []int64{math.MinInt64, math.MinInt64 + 1, -16, -1, 0, 1, 2, 3, 4, 5, 8, 15, 16, 17, 1 << 32, 1<<32 + 1, math.MaxInt64 - 1, math.MaxInt64}

func TestAlgebraReturnsForAllPairs(t *testing.T) {
	t.Parallel()
	recurrences := hostileAlgebra()
	for i, r := range recurrences {
		for k, s := range recurrences {
			a := algebraArguments{r: r, s: s}
			for _, name := range twoNames {
				checkAlgebraCall(t, algebraCallOf(name), a, fmt.Sprint("the recurrences ", i, " and ", k))
			}
		}
	}
}

func TestAlgebraReturnsForAllArguments(t *testing.T) {
	t.Parallel()
	factors := []string{"", "0", "1", "-1", "1/2", "-3/2", "2/4", "-0", "+1", "1/0", "x", "\xff", nines(60), "-1/" + nines(60), nines(60) + "/" + tenTo(59), nines(61)}
	lists := append(hostileTerms(), hostileLists()...)
	for i, r := range hostileAlgebra() {
		for k, list := range lists {
			a := algebraArguments{r: r, a: factors[(i+k)%len(factors)], n: hostileShifts[k%len(hostileShifts)], step: hostileShifts[(i+3*k)%len(hostileShifts)], list: list}
			for _, call := range algebraCalls() {
				if !slices.Contains(twoNames, call.name) && call.name != "WeaveSequences" {
					checkAlgebraCall(t, call, a, fmt.Sprint("the recurrence ", i, " and the list ", k))
				}
			}
		}
		for _, n := range hostileShifts {
			for _, step := range hostileShifts {
				checkAlgebraCall(t, algebraCallOf("EveryOf"), algebraArguments{r: r, n: n, step: step}, fmt.Sprint("the recurrence ", i))
			}
		}
	}
}

func TestWeavingReturnsForAllArguments(t *testing.T) {
	recurrences := hostileAlgebra()
	for i := range recurrences {
		for count := range 7 {
			woven := []impl.Recurrence{}
			for k := range count {
				woven = append(woven, recurrences[(i*(k+1)+k*k)%len(recurrences)])
			}
			checkAlgebraCall(t, algebraCallOf("WeaveSequences"), algebraArguments{woven: woven}, fmt.Sprint(count, " recurrences from ", i, " on"))
		}
		last := []impl.Recurrence{rec("1;1"), rec("0,1;1,1"), {}, recurrences[i]}
		for first := range 4 {
			checkAlgebraCall(t, algebraCallOf("WeaveSequences"), algebraArguments{woven: last[first:]}, fmt.Sprint("a list that ends with the recurrence ", i))
		}
	}
	for _, woven := range [][]impl.Recurrence{nil, {}, make([]impl.Recurrence, 4), make([]impl.Recurrence, 5), make([]impl.Recurrence, 5000)} {
		checkAlgebraCall(t, algebraCallOf("WeaveSequences"), algebraArguments{woven: woven}, fmt.Sprint(len(woven), " empty recurrences"))
	}
}

// Arguments that share memory with each other are no reason to go wrong.
func TestAlgebraWithSharedMemory(t *testing.T) {
	list, before := spare([]string{"1", "2", "3"})
	r := impl.Recurrence{Start: list[:2], Coeffs: list[1:]}
	s := impl.Recurrence{Start: list, Coeffs: list}
	a := algebraArguments{r: r, s: s, a: list[1], n: 1, step: 2, list: list, woven: []impl.Recurrence{r, s, r}}
	other := algebraArguments{r: rec("1,2;2,3"), s: rec("1,2,3;1,2,3"), a: "2", n: 1, step: 2, list: []string{"1", "2", "3"}}
	other.woven = []impl.Recurrence{other.r, other.s, other.r}
	for _, call := range algebraCalls() {
		want := call.wantedText(other)
		got, ok := call.run(a)
		wantRecurrence(t, call.name, got, ok, want)
	}
	wantUntouched(t, "all of them", list, before)
}
