package tests

import (
	"math"
	"slices"
	"testing"

	"loop.example/s08086/impl"
)

func everyPass() []int {
	return []int{impl.PassDead, impl.PassCommon, impl.PassFold, impl.PassNeg, impl.PassUnit}
}

// sameMeaning compares two graphs but for the K of values that are no constants, and with all NaNs as one.
func sameMeaning(g, h impl.Graph) bool {
	plainer := func(g impl.Graph) impl.Graph {
		g = copyGraph(g)
		for i := range g.Vals {
			if v := &g.Vals[i]; v.Op != impl.OpConst {
				v.K = 0
			} else if v.K != v.K {
				v.K = math.NaN()
			}
		}
		return g
	}
	return sameGraph(plainer(g), plainer(h))
}

// withStrayK answers the graph with floats in K, where K is to be ignored, that would matter in a constant.
func withStrayK(g impl.Graph) impl.Graph {
	g = copyGraph(g)
	stray := []float64{1, minusZero(), 0, math.NaN(), -1, 1}
	for i := range g.Vals {
		if g.Vals[i].Op != impl.OpConst {
			g.Vals[i].K = stray[i%len(stray)]
		}
	}
	return g
}

// inputsToTry answers inputs that are all one edge each, and a few of the generator's.
func inputsToTry(s *source, g impl.Graph) [][][]float64 {
	out := [][][]float64{inputsFor(s, g), inputsFor(s, g), inputsFor(s, g)}
	if len(g.Ins) == 0 {
		return out[:1]
	}
	edges := []float64{0, minusZero(), 1, math.Inf(1), math.Inf(-1), math.NaN(), math.SmallestNonzeroFloat64, -math.SmallestNonzeroFloat64, 0x1p-1023}
	for _, f := range edges {
		inputs := [][]float64{}
		for _, n := range g.Ins {
			inputs = append(inputs, slices.Repeat([]float64{f}, n))
		}
		out = append(out, inputs)
	}
	return out
}

// checkKeeps looks at P8 and P10: what every pass keeps of a valid graph.
func checkKeeps(t *testing.T, s *source, before, after impl.Graph) {
	t.Helper()
	if !impl.ValidGraph(after) || !wantValid(after) {
		t.Fatalf("not valid: %s\nafter %s", told(after), told(before))
	}
	if !slices.Equal(before.Ins, after.Ins) || len(before.Outs) != len(after.Outs) || len(after.Vals) > len(before.Vals) {
		t.Fatalf("other inputs, other outputs or more values: %s\nafter %s", told(after), told(before))
	}
	for _, inputs := range inputsToTry(s, before) {
		want, code := impl.Eval(before, inputs)
		got, codeAfter := impl.Eval(after, inputs)
		if code != impl.CodeOK || codeAfter != impl.CodeOK || !sameLists(got, want) {
			t.Fatalf("inputs %v: %v (%d), without the pass %v (%d)\n%s\nafter %s", inputs, got, codeAfter, want, code, told(after), told(before))
		}
	}
}

// optimised calls Optimise and looks at what holds for every call.
func optimised(t *testing.T, s *source, g impl.Graph, passes []int) (impl.Graph, int) {
	t.Helper()
	var got impl.Graph
	var code int
	kept, keptPasses := copyGraph(g), slices.Clone(passes)
	mustPanicNever(t, told(impl.Graph{Ins: g.Ins}), func() { got, code = impl.Optimise(g, passes) })
	if !sameGraph(g, kept) || !slices.Equal(passes, keptPasses) {
		t.Fatalf("passes %v: an argument is written to", keptPasses)
	}
	want, wantCode := wantOptimise(g, passes)
	if code != wantCode || !sameMeaning(got, want) {
		t.Fatalf("passes %v: code %d, want %d\n got %+v\nwant %+v\nfrom %+v", passes, code, wantCode, got, want, g)
	}
	if code == impl.CodeOK {
		checkKeeps(t, s, g, got)
	}
	return got, code
}

// passed calls RunPass and looks at what holds for every call, and that Optimise of one pass says the same.
func passed(t *testing.T, s *source, g impl.Graph, pass int) (impl.Graph, int) {
	t.Helper()
	var got impl.Graph
	var code int
	kept := copyGraph(g)
	mustPanicNever(t, told(impl.Graph{Ins: g.Ins}), func() { got, code = impl.RunPass(g, pass) })
	if !sameGraph(g, kept) {
		t.Fatalf("pass %d: the argument is written to", pass)
	}
	same, sameCode := optimised(t, s, g, []int{pass})
	if code != sameCode || !sameMeaning(got, same) {
		t.Fatalf("pass %d: code %d, want %d\n got %+v\nwant %+v\nfrom %+v", pass, code, sameCode, got, same, g)
	}
	if code == impl.CodeOK && pass == impl.PassDead {
		checkNoneDead(t, got)
	}
	return got, code
}

// checkNoneDead looks at P9.
func checkNoneDead(t *testing.T, g impl.Graph) {
	t.Helper()
	if len(neededIn(g)) != len(g.Vals) {
		t.Fatalf("a value that no output needs: %s", told(g))
	}
	if again, code := impl.RunPass(g, impl.PassDead); code != impl.CodeOK || !sameGraph(again, g) {
		t.Fatalf("the second time (code %d): %s\nafter %s", code, told(again), told(g))
	}
}

// checkPass takes pairs of a graph and the graph after the pass, as told tells them.
func checkPass(t *testing.T, pass int, pairs ...string) {
	t.Helper()
	s := &source{80}
	for i := 0; i < len(pairs); i += 2 {
		g := readGraph(t, pairs[i])
		if !wantValid(g) {
			t.Fatalf("%s is not valid", pairs[i])
		}
		for _, from := range []impl.Graph{g, withStrayK(g)} {
			got, code := passed(t, s, from, pass)
			if want := readGraph(t, pairs[i+1]); code != impl.CodeOK || !sameMeaning(got, want) {
				t.Errorf("pass %d of %s: code %d\n got %s\nwant %s", pass, pairs[i], code, told(got), told(want))
			}
		}
	}
}

// checkStays takes graphs that the pass leaves as they are.
func checkStays(t *testing.T, pass int, graphs ...string) {
	t.Helper()
	for _, g := range graphs {
		checkPass(t, pass, g, g)
	}
}
