package tests

import (
	"slices"
	"testing"

	"loop.example/s08086/impl"
)

func wantGradCode(t *testing.T, what string, g impl.Graph, s, x, want int) {
	t.Helper()
	mustPanicNever(t, what, func() {
		got, at, code := impl.Grad(g, s, x)
		if code != want || code != impl.CodeOK && (at != 0 || !sameGraph(got, impl.Graph{})) {
			t.Errorf("%s: code %d, want %d, index %d, %d values", what, code, want, at, len(got.Vals))
		}
		if code == impl.CodeOK {
			checkGradCall(t, g, s, x)
		}
	})
}

func wantJvpCode(t *testing.T, what string, g impl.Graph, s, x, d, want int) {
	t.Helper()
	mustPanicNever(t, what, func() {
		got, at, code := impl.Jvp(g, s, x, d)
		if code != want || code != impl.CodeOK && (at != 0 || !sameGraph(got, impl.Graph{})) {
			t.Errorf("%s: code %d, want %d, index %d, %d values", what, code, want, at, len(got.Vals))
		}
		if code == impl.CodeOK {
			checkJvpCall(t, g, s, x, d)
		}
	})
}

// P4 and P5: an s, x or t that is no index of a value.
func TestDerivativesByWrongIndexes(t *testing.T) {
	g := triples(val(impl.OpSum, 1, 0, 0, 0))
	for _, far := range append(farInts(), 5, 6, impl.MaxVals, impl.MaxVals+1) {
		for _, other := range []int{0, 4, far} {
			wantGradCode(t, "s is no value", g, far, other, impl.CodeBad)
			wantGradCode(t, "x is no value", g, other, far, impl.CodeBad)
			wantJvpCode(t, "s is no value", g, far, other, other, impl.CodeBad)
			wantJvpCode(t, "x is no value", g, other, far, other, impl.CodeBad)
			wantJvpCode(t, "t is no value", g, other, other, far, impl.CodeBad)
		}
	}
	for _, g := range []impl.Graph{{}, {Ins: []int{1}}} {
		wantGradCode(t, "no values", g, 0, 0, impl.CodeBad)
		wantJvpCode(t, "no values", g, 0, 0, 0, impl.CodeBad)
	}
}

// P4 and P5: a graph that is not valid, though the values from x to s are.
func TestDerivativesOfBadGraphs(t *testing.T) {
	spoil := []func(g *impl.Graph){
		func(g *impl.Graph) { g.Outs = append(g.Outs, len(g.Vals)) },
		func(g *impl.Graph) { g.Outs = append(g.Outs, -1) },
		func(g *impl.Graph) { g.Outs = make([]int, impl.MaxOuts+1) },
		func(g *impl.Graph) { g.Ins = append(g.Ins, 0) },
		func(g *impl.Graph) { g.Ins = append(g.Ins, impl.MaxLen+1) },
		func(g *impl.Graph) { g.Ins[2] = 2 },
		func(g *impl.Graph) { g.Ins = append(g.Ins, slices.Repeat([]int{1}, impl.MaxIns)...) },
		func(g *impl.Graph) { g.Vals = append(g.Vals, val(impl.OpNeg, 1, 99, 0, 0)) },
		func(g *impl.Graph) { g.Vals = append(g.Vals, val(impl.OpNeg, 1, 3, 1, 0)) },
		func(g *impl.Graph) { g.Vals = append(g.Vals, val(14, 1, 0, 0, 0)) },
		func(g *impl.Graph) { g.Vals[4].Len = 2 },
		func(g *impl.Graph) { g.Vals[4].A = 4 },
		func(g *impl.Graph) { g.Vals[4].A = -1 },
		func(g *impl.Graph) { g.Vals = append(g.Vals, slices.Repeat([]impl.Val{one()}, impl.MaxVals)...) },
		func(g *impl.Graph) { g.Vals = append(g.Vals, slices.Repeat([]impl.Val{constant(1000, 1)}, 50)...) },
	}
	for i, change := range spoil {
		g := triples(val(impl.OpSum, 1, 0, 0, 0))
		change(&g)
		if wantValid(g) {
			t.Fatalf("case %d is valid", i)
		}
		wantGradCode(t, "a bad graph", g, 4, 0, impl.CodeBad)
		wantGradCode(t, "a bad graph", g, 3, 3, impl.CodeBad)
		wantJvpCode(t, "a bad graph", g, 4, 0, 1, impl.CodeBad)
		wantJvpCode(t, "a bad graph", g, 3, 3, 3, impl.CodeBad)
		wantGradCode(t, "a bad graph, s of another length", g, 0, 0, impl.CodeBad)
		wantJvpCode(t, "a bad graph, t of another length", g, 4, 0, 3, impl.CodeBad)
	}
}

// filledTo puts constants of these lengths behind a graph.
func filledTo(g impl.Graph, lens ...int) impl.Graph {
	for _, n := range lens {
		g.Vals = append(g.Vals, constant(n, 5))
	}
	return g
}

// P4 and P5: lengths that do not fit are told behind bad indexes and ahead of limits.
func TestDerivativesOfWrongLengths(t *testing.T) {
	full := filledTo(triples(val(impl.OpSum, 1, 0, 0, 0)), slices.Repeat([]int{1}, impl.MaxVals-5)...)
	for _, g := range []impl.Graph{triples(val(impl.OpSum, 1, 0, 0, 0)), full} {
		for _, x := range []int{0, 1, 3, 4} {
			wantGradCode(t, "s of length 3", g, 0, x, impl.CodeShape)
			wantGradCode(t, "s of length 3", g, 2, x, impl.CodeShape)
		}
		wantGradCode(t, "s of length 3, no x", g, 0, -1, impl.CodeBad)
		for _, s := range []int{0, 3, 4} {
			wantJvpCode(t, "t of length 1", g, s, 0, 3, impl.CodeShape)
			wantJvpCode(t, "t of length 1", g, s, 0, 4, impl.CodeShape)
			wantJvpCode(t, "t of length 3", g, s, 3, 0, impl.CodeShape)
			wantJvpCode(t, "t of length 3", g, s, 4, 0, impl.CodeShape)
		}
		wantJvpCode(t, "t of length 1, no s", g, -1, 0, 3, impl.CodeBad)
	}
	two := inputsThen([]int{2, 3, 1000, 999})
	wantJvpCode(t, "2 and 3", two, 0, 0, 1, impl.CodeShape)
	wantJvpCode(t, "1000 and 999", two, 2, 2, 3, impl.CodeShape)
	wantJvpCode(t, "s of yet another length", two, 3, 0, 0, impl.CodeOK)
}

// turns is two inputs of length 1, then n values each of which turns the one before.
func turns(n int) impl.Graph {
	g := inputsThen([]int{1, 1})
	for i := range n {
		g.Vals = append(g.Vals, val(impl.OpNeg, 1, 1+i, 0, 0))
	}
	return g
}

// P4: the values put behind meet MaxVals exactly, or break it by one.
func TestGradMeetsMaxVals(t *testing.T) {
	// 2 + n values, 1 + n are put behind
	wantGradCode(t, "1999 values", turns(998), 999, 1, impl.CodeOK)
	wantGradCode(t, "2000 values", filledTo(turns(998), 1), 999, 1, impl.CodeOK)
	wantGradCode(t, "2001 values", filledTo(turns(998), 1, 1), 999, 1, impl.CodeLimit)
	wantGradCode(t, "2001 values", turns(999), 1000, 1, impl.CodeLimit)
	got, at, _ := impl.Grad(filledTo(turns(998), 1), 999, 1)
	if len(got.Vals) != 2000 || at != 1999 {
		t.Errorf("%d values, index %d", len(got.Vals), at)
	}
	full := filledTo(turns(1), slices.Repeat([]int{1}, impl.MaxVals-3)...)
	less := full
	less.Vals = full.Vals[:impl.MaxVals-1]
	for _, p := range [][2]int{{1, 1}, {2, 2}, {0, 1}, {1, 2}, {2, 0}, {1998, 1998}, {1998, 0}, {0, 1998}} {
		wantGradCode(t, "one value more than MaxVals", full, p[0], p[1], impl.CodeLimit)
		wantGradCode(t, "MaxVals with the one value put behind", less, p[0], p[1], impl.CodeOK)
	}
	wantGradCode(t, "two values more", less, 2, 1, impl.CodeLimit)
	wantGradCode(t, "two values more", full, 2, 1, impl.CodeLimit)
}

// P4: a first operand of an OpSel makes two values: the slope of s and the zeros.
func TestGradOfAChoiceMeetsMaxVals(t *testing.T) {
	for more, want := range map[int]int{1994: impl.CodeOK, 1995: impl.CodeLimit, 1996: impl.CodeLimit} {
		g := filledTo(scalars(val(impl.OpSel, 1, 0, 1, 2)), slices.Repeat([]int{1}, more)...)
		wantGradCode(t, "a choice", g, 3, 0, want)
	}
}

// P4: the elements put behind meet MaxCells exactly, or break it by one.
func TestGradMeetsMaxCells(t *testing.T) {
	g := inputsThen([]int{1000, 1}, val(impl.OpSum, 1, 0, 0, 0))
	thousands := func(n int) impl.Graph { return filledTo(copyGraph(g), slices.Repeat([]int{1000}, n)...) }
	// 1002 elements; 1 + 1000 are put behind
	wantGradCode(t, "50000 cells", filledTo(thousands(47), 997), 2, 0, impl.CodeOK)
	wantGradCode(t, "50001 cells", filledTo(thousands(47), 998), 2, 0, impl.CodeLimit)
	// zeros of the length of x, 1000
	wantGradCode(t, "50000 cells, not reached", filledTo(thousands(47), 998), 1, 0, impl.CodeOK)
	wantGradCode(t, "50001 cells, not reached", filledTo(thousands(47), 999), 1, 0, impl.CodeLimit)
	// one element
	wantGradCode(t, "50000 cells, s = x", filledTo(thousands(48), 997), 2, 2, impl.CodeOK)
	wantGradCode(t, "50001 cells, s = x", filledTo(thousands(48), 998), 2, 2, impl.CodeLimit)
	wantGradCode(t, "50001 cells, s < x", filledTo(thousands(48), 998), 1, 2, impl.CodeLimit)
}

// P5: the values put behind meet MaxVals exactly, or break it by one.
func TestJvpMeetsMaxVals(t *testing.T) {
	// 2 + n values, n are put behind
	wantJvpCode(t, "2000 values", turns(999), 1000, 1, 0, impl.CodeOK)
	wantJvpCode(t, "2001 values", filledTo(turns(999), 1), 1000, 1, 0, impl.CodeLimit)
	wantJvpCode(t, "2002 values", turns(1000), 1001, 1, 0, impl.CodeLimit)
	full := filledTo(inputsThen([]int{1, 1}, val(impl.OpNeg, 1, 1, 0, 0), val(impl.OpAdd, 1, 0, 1, 0)), slices.Repeat([]int{1}, impl.MaxVals-4)...)
	less := full
	less.Vals = full.Vals[:impl.MaxVals-1]
	last := impl.MaxVals - 2
	for _, g := range []impl.Graph{full, less} {
		wantJvpCode(t, "s = x, nothing put behind", g, 1, 1, 0, impl.CodeOK)
		wantJvpCode(t, "s = x, nothing put behind", g, last, last, last, impl.CodeOK)
	}
	wantJvpCode(t, "one operand of a sum moves", full, 3, 0, 1, impl.CodeOK)
	for _, p := range [][2]int{{2, 1}, {0, 1}, {2, 0}, {last, 0}} {
		wantJvpCode(t, "one value more than MaxVals", full, p[0], p[1], 1, impl.CodeLimit)
		wantJvpCode(t, "MaxVals with the one value put behind", less, p[0], p[1], 1, impl.CodeOK)
	}
}

// P5: the elements put behind meet MaxCells exactly, or break it by one.
func TestJvpMeetsMaxCells(t *testing.T) {
	g := inputsThen([]int{1000, 1}, val(impl.OpNeg, 1000, 0, 0, 0), val(impl.OpSum, 1, 2, 0, 0))
	thousands := func(n int) impl.Graph { return filledTo(copyGraph(g), slices.Repeat([]int{1000}, n)...) }
	// 2002 elements; 1000 are put behind for value 2, and 1 for value 3
	wantJvpCode(t, "50000 cells", filledTo(thousands(46), 998), 2, 0, 0, impl.CodeOK)
	wantJvpCode(t, "50001 cells", filledTo(thousands(46), 999), 2, 0, 0, impl.CodeLimit)
	wantJvpCode(t, "50000 cells with a sum", filledTo(thousands(46), 997), 3, 0, 2, impl.CodeOK)
	wantJvpCode(t, "50001 cells with a sum", filledTo(thousands(46), 998), 3, 0, 2, impl.CodeLimit)
	// zeros of the length of s
	wantJvpCode(t, "50000 cells, s < x", filledTo(thousands(46), 998), 0, 1, 1, impl.CodeOK)
	wantJvpCode(t, "50001 cells, s < x", filledTo(thousands(46), 999), 0, 1, 1, impl.CodeLimit)
	// nothing at all
	wantJvpCode(t, "50000 cells, nothing put behind", filledTo(thousands(47), 998), 2, 2, 0, impl.CodeOK)
}

// P4 and P5: ways that put behind many more values than there may be.
func TestDerivativesFarBeyondTheLimits(t *testing.T) {
	for _, op := range []int{impl.OpMax, impl.OpDiv, impl.OpSel} {
		g := inputsThen([]int{1})
		for i := range impl.MaxVals - 1 {
			v := val(op, 1, i, i, 0)
			if op == impl.OpSel {
				v.C = i
			}
			g.Vals = append(g.Vals, v)
		}
		wantGradCode(t, "a long way", g, impl.MaxVals-1, 0, impl.CodeLimit)
		wantJvpCode(t, "a long way", g, impl.MaxVals-1, 0, 0, impl.CodeLimit)
		wantGradCode(t, "a long way from the middle", g, impl.MaxVals-1, impl.MaxVals-2, impl.CodeLimit)
		wantJvpCode(t, "no way", g, impl.MaxVals-1, impl.MaxVals-1, 0, impl.CodeOK)
	}
}
