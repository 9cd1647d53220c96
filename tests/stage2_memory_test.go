package tests

import (
	"slices"
	"testing"

	"loop.example/s08086/impl"
)

// roomy answers the same graph, with lists that have memory behind their ends, and what looks after that memory.
func roomy(g impl.Graph) (impl.Graph, func() bool) {
	ins := append(slices.Clone(g.Ins), slices.Repeat([]int{77}, 40)...)
	vals := append(slices.Clone(g.Vals), slices.Repeat([]impl.Val{{Op: 77}}, 40)...)
	outs := append(slices.Clone(g.Outs), slices.Repeat([]int{77}, 40)...)
	keptIns, keptVals, keptOuts := slices.Clone(ins), slices.Clone(vals), slices.Clone(outs)
	untouched := func() bool {
		return slices.Equal(ins, keptIns) && slices.Equal(outs, keptOuts) && sameGraph(impl.Graph{Vals: vals}, impl.Graph{Vals: keptVals})
	}
	return impl.Graph{Ins: ins[:len(g.Ins)], Vals: vals[:len(g.Vals)], Outs: outs[:len(g.Outs)]}, untouched
}

// overwrite writes over all the memory of a graph's lists, also that beyond their ends.
func overwrite(g impl.Graph) {
	for _, list := range [][]int{g.Ins[:cap(g.Ins)], g.Outs[:cap(g.Outs)]} {
		for i := range list {
			list[i] = 55
		}
	}
	vals := g.Vals[:cap(g.Vals)]
	for i := range vals {
		vals[i] = impl.Val{Op: 55}
	}
}

// checkCallMemory looks at what a call does to the memory of its argument, and at what it hands out.
func checkCallMemory(t *testing.T, g impl.Graph, call func(g impl.Graph) (impl.Graph, int)) {
	t.Helper()
	given, untouched := roomy(g)
	first, code := call(given)
	kept := copyGraph(first)
	if !untouched() {
		t.Fatalf("code %d: the argument is written to: %+v", code, g)
	}
	ins := first.Ins[:cap(first.Ins)]
	for i := range ins {
		ins[i] = 66
	}
	if !slices.Equal(first.Outs, kept.Outs) {
		t.Fatalf("Ins and Outs of one answer share memory: %+v", g)
	}
	overwrite(first)
	if !untouched() {
		t.Fatalf("the answer shares memory with the argument: %+v", g)
	}
	second, again := call(given)
	overwrite(given)
	if again != code || !sameGraph(second, kept) {
		t.Fatalf("the answer changes with the argument, or a call remembers another: %+v", g)
	}
}

// No call of Grad or Jvp writes into its graph, and no answer shares memory with it.
func TestDerivativesMemory(t *testing.T) {
	s := &source{40}
	codes := map[int]int{}
	for round := range 3000 {
		g := closeGraph(s, 3+s.below(10))
		if round%10 == 0 {
			g.Outs = append(g.Outs, len(g.Vals))
		}
		if round%10 == 1 {
			g = filledTo(g, slices.Repeat([]int{1}, impl.MaxVals-len(g.Vals))...)
		}
		of, x, d := s.below(min(20, len(g.Vals))), s.below(min(20, len(g.Vals))), s.below(min(20, len(g.Vals)))
		checkCallMemory(t, g, func(g impl.Graph) (impl.Graph, int) {
			out, _, code := impl.Grad(g, of, x)
			codes[code]++
			return out, code
		})
		checkCallMemory(t, g, func(g impl.Graph) (impl.Graph, int) {
			out, _, code := impl.Jvp(g, of, x, d)
			codes[code]++
			return out, code
		})
	}
	for _, c := range []int{impl.CodeOK, impl.CodeBad, impl.CodeShape, impl.CodeLimit} {
		if codes[c] < 50 {
			t.Errorf("code %d was answered %d times: not much of a test", c, codes[c])
		}
	}
}

// Nothing put behind is no reason to hand out the argument itself.
func TestJvpWithNothingPutBehindIsACopy(t *testing.T) {
	g := triples(val(impl.OpAdd, 3, 0, 1, 0))
	for _, p := range [][3]int{{0, 0, 1}, {4, 0, 2}, {4, 4, 4}} {
		checkCallMemory(t, g, func(g impl.Graph) (impl.Graph, int) {
			out, at, code := impl.Jvp(g, p[0], p[1], p[2])
			if at != p[2] || code != impl.CodeOK || len(out.Vals) != 5 {
				t.Errorf("index %d, code %d, %d values", at, code, len(out.Vals))
			}
			return out, code
		})
	}
}
