package tests

import (
	"math/rand/v2"
	"slices"
	"testing"

	"loop.example/g01120/impl"
)

// Promise 6: operations on recurrences are operations on all terms.

func TestAlgebraLimits(t *testing.T) {
	got := []int64{impl.MaxShift, impl.MaxStep, impl.MaxWoven}
	if want := []int64{16, 4, 4}; !slices.Equal(got, want) {
		t.Errorf("got %v, want %v", got, want)
	}
}

func TestExamplesOfAlgebra(t *testing.T) {
	fibonacci := rec("0,1;1,1")
	r, ok := impl.SumsOf(rec("1;1"))
	wantRecurrence(t, "sums of ones", r, ok, "1,2;2,-1")
	r, ok = impl.MulSequences(fibonacci, fibonacci)
	wantRecurrence(t, "squares", r, ok, "0,1,1;2,2,-1")
	r, ok = impl.WeaveSequences([]impl.Recurrence{rec("1;1"), rec("none;none")})
	wantRecurrence(t, "ones and zeros", r, ok, "1,0;0,1")
	r, ok = impl.BackSequence(rec("1;2"))
	wantRecurrence(t, "powers of 2 back", r, ok, "1;1/2")
	r, ok = impl.BackSequence(fibonacci)
	wantRecurrence(t, "back from 0, 1, 1", r, ok, "0,1;-1,1")
	r, ok = impl.EveryOf(fibonacci, 1, 3)
	wantRecurrence(t, "1, 3, 13, 55", r, ok, "1,3;4,1")
	r, ok = impl.PolySequence(poly("x^2"))
	wantRecurrence(t, "squares", r, ok, "0,1,4;3,-3,1")
}

func TestAllTinyPairs(t *testing.T) {
	all := tinyRecurrences([]string{"0", "1", "-1/2"}, 2)
	random := rand.New(rand.NewPCG(81, 82))
	for i, r := range all {
		checkTwoSequences(t, r, r)
		checkTwoSequences(t, r, all[random.IntN(len(all))])
		checkTwoSequences(t, all[random.IntN(10)], r)
		checkTwoSequences(t, r, all[(i*i+7)%len(all)])
	}
	for _, r := range all[:10] {
		for _, s := range all[:10] {
			checkTwoSequences(t, r, s)
		}
	}
}

func TestAllTinySequences(t *testing.T) {
	t.Parallel()
	random := rand.New(rand.NewPCG(83, 84))
	for _, r := range tinyRecurrences([]string{"0", "1", "-1", "2"}, 2) {
		checkOneSequence(t, oneArguments(random, r))
	}
	for i, r := range tinyRecurrences([]string{"0", "1"}, 3) {
		for step := int64(1); step <= stepLimit; step++ {
			checkAlgebra(t, "EveryOf", algebraArguments{r: r, n: int64(i % 5), step: step})
		}
		checkOneSequence(t, oneArguments(random, r))
	}
}

func TestAllTinyPrependedTerms(t *testing.T) {
	for _, r := range tinyRecurrences([]string{"0", "1"}, 2) {
		tinyLists([]string{"0", "1", "1/2"}, 3, func(list []string) {
			checkAlgebra(t, "PrependTerms", algebraArguments{r: r, list: list})
		})
	}
}

func TestAllTinyWovenSequences(t *testing.T) {
	all := tinyRecurrences([]string{"0", "1", "2"}, 1)
	for i, r := range all {
		checkAlgebra(t, "WeaveSequences", algebraArguments{woven: []impl.Recurrence{r}})
		for k, s := range all {
			checkAlgebra(t, "WeaveSequences", algebraArguments{woven: []impl.Recurrence{r, s}})
			checkAlgebra(t, "WeaveSequences", algebraArguments{woven: []impl.Recurrence{r, s, all[(i*k+1)%len(all)]}})
			checkAlgebra(t, "WeaveSequences", algebraArguments{woven: []impl.Recurrence{r, all[(i+k)%len(all)], s, r}})
		}
	}
}

func TestAllTinyPolynomialSequences(t *testing.T) {
	tinyLists([]string{"0", "1", "-2", "1/3"}, 4, func(p []string) {
		checkAlgebra(t, "PolySequence", algebraArguments{list: p})
	})
}

func TestRandomPairs(t *testing.T) {
	t.Parallel()
	random := rand.New(rand.NewPCG(85, 86))
	for order := range orderLimit + 1 {
		for other := range orderLimit + 1 {
			checkTwoSequences(t, smallRecurrence(random, order), smallRecurrence(random, other))
		}
	}
	for range 60 {
		checkTwoSequences(t, smallRecurrence(random, random.IntN(4)), smallRecurrence(random, random.IntN(4)))
		checkTwoSequences(t, greatRecurrence(random, random.IntN(3)), greatRecurrence(random, random.IntN(3)))
		checkTwoSequences(t, greatRecurrence(random, random.IntN(3)), smallRecurrence(random, random.IntN(3)))
	}
}

func TestRandomSequences(t *testing.T) {
	t.Parallel()
	random := rand.New(rand.NewPCG(87, 88))
	for range 30 {
		for order := range orderLimit + 1 {
			checkOneSequence(t, oneArguments(random, smallRecurrence(random, order)))
		}
		checkOneSequence(t, oneArguments(random, greatRecurrence(random, random.IntN(3))))
		a := oneArguments(random, greatRecurrence(random, random.IntN(3)))
		a.a, a.list = randomNumber(random), greatRecurrence(random, random.IntN(3)).Start
		checkOneSequence(t, a)
	}
}

func TestRandomWovenSequences(t *testing.T) {
	random := rand.New(rand.NewPCG(89, 90))
	for range 40 {
		woven := []impl.Recurrence{}
		for range 1 + random.IntN(wovenLimit) {
			woven = append(woven, smallRecurrence(random, random.IntN(3)))
		}
		checkAlgebra(t, "WeaveSequences", algebraArguments{woven: woven})
		checkAlgebra(t, "WeaveSequences", algebraArguments{woven: woven[:1+random.IntN(len(woven))]})
		checkAlgebra(t, "WeaveSequences", algebraArguments{woven: []impl.Recurrence{smallRecurrence(random, random.IntN(9)), smallRecurrence(random, random.IntN(9))}})
	}
}

func TestRandomPolynomialSequences(t *testing.T) {
	t.Parallel()
	random := rand.New(rand.NewPCG(91, 92))
	for range 100 {
		checkAlgebra(t, "PolySequence", algebraArguments{list: smallPoly(random, orderLimit)})
		checkAlgebra(t, "PolySequence", algebraArguments{list: greatPoly(random, orderLimit)})
	}
}

// What one operation does, another one undoes, and the result is the minimal recurrence of the first sequence.
func TestOperationsThatUndoEachOther(t *testing.T) {
	random := rand.New(rand.NewPCG(93, 94))
	for range 200 {
		r, s := smallRecurrence(random, random.IntN(5)), smallRecurrence(random, random.IntN(4))
		least := minimalText(r)
		undo := func(name string, first impl.Recurrence, ok bool, second func(impl.Recurrence) (impl.Recurrence, bool)) {
			t.Helper()
			if !ok {
				t.Errorf("%s of %s: fails", name, recText(r))
				return
			}
			back, ok := second(first)
			wantRecurrence(t, name+" of "+recText(r), back, ok, least)
		}
		sum, ok := impl.AddSequences(r, s)
		undo("sum and difference", sum, ok, func(w impl.Recurrence) (impl.Recurrence, bool) { return impl.SubSequences(w, s) })
		scaled, ok := impl.ScaleSequence(r, "-3/7")
		undo("multiple", scaled, ok, func(w impl.Recurrence) (impl.Recurrence, bool) { return impl.ScaleSequence(w, "-7/3") })
		twisted, ok := impl.TwistSequence(r, "5/2")
		undo("twist", twisted, ok, func(w impl.Recurrence) (impl.Recurrence, bool) { return impl.TwistSequence(w, "2/5") })
		longer, ok := impl.PrependTerms(r, s.Start)
		undo("terms before it", longer, ok, func(w impl.Recurrence) (impl.Recurrence, bool) { return impl.ShiftSequence(w, int64(len(s.Start))) })
		woven, ok := impl.WeaveSequences([]impl.Recurrence{r, {}})
		if ok {
			undo("weaving", woven, ok, func(w impl.Recurrence) (impl.Recurrence, bool) { return impl.EveryOf(w, 0, 2) })
		}
		sums, ok := impl.SumsOf(r)
		undo("sums", sums, ok, func(w impl.Recurrence) (impl.Recurrence, bool) {
			behind, ok := impl.PrependTerms(w, []string{"0"})
			if !ok {
				return behind, ok
			}
			return impl.DifferencesOf(behind)
		})
		if back, ok := impl.BackSequence(r); ok {
			undo("to the other side", back, ok, impl.BackSequence)
		}
	}
}
