package tests

import (
	"math"
	"testing"

	"loop.example/s08086/impl"
)

// P3: the outputs of many graphs are those of the table.
func TestEvalByTheTable(t *testing.T) {
	s := &source{11}
	seen := [14]int{}
	for range 20000 {
		g := anyGraph(s)
		for _, v := range g.Vals {
			seen[v.Op]++
		}
		inputs := inputsFor(s, g)
		outs, code := impl.Eval(g, inputs)
		if want := wantEval(g, inputs); code != impl.CodeOK || !sameLists(outs, want) {
			t.Fatalf("%+v of %v: %d %v, want %v", g, inputs, code, outs, want)
		}
	}
	for op, n := range seen {
		if n < 1000 {
			t.Errorf("%s was met %d times", ruleOf(op).name, n)
		}
	}
}

// P3: each Op with its answer written out.
func TestEvalEveryOp(t *testing.T) {
	want := [][]float64{
		{1, 2, minusZero()}, {-1.5, -1.5, -1.5}, {3, 0, -4}, {-1, 4, 4}, {2, -4, minusZero() * -4},
		{0.5, -1, 0}, {-1, -2, 0}, {2, 2, minusZero()}, {2, -2, minusZero()},
		{3}, {5, 5, 5}, {minusZero()}, {0, 0, 5}, {impl.ExpFloat(1), impl.ExpFloat(2), 1},
	}
	g := impl.Graph{Ins: []int{3, 3, 1}, Vals: []impl.Val{
		val(impl.OpInput, 3, 0, 0, 0), val(impl.OpInput, 3, 1, 0, 0), val(impl.OpInput, 1, 2, 0, 0)}}
	more := []impl.Val{
		val(impl.OpInput, 3, 0, 0, 0), constant(3, -1.5), val(impl.OpAdd, 3, 0, 1, 0), val(impl.OpSub, 3, 0, 1, 0), val(impl.OpMul, 3, 0, 1, 0),
		val(impl.OpDiv, 3, 0, 1, 0), val(impl.OpNeg, 3, 0, 0, 0), val(impl.OpMax, 3, 1, 0, 0), val(impl.OpSel, 3, 0, 1, 0),
		val(impl.OpSum, 1, 0, 0, 0), val(impl.OpFill, 3, 2, 0, 0), val(impl.OpPick, 1, 0, 0, 2), val(impl.OpPut, 3, 2, 0, 2), val(impl.OpExp, 3, 0, 0, 0),
	}
	for i, v := range more {
		g.Vals = append(g.Vals, v)
		g.Outs = append(g.Outs, 3+i)
	}
	outs, code := impl.Eval(g, [][]float64{{1, 2, minusZero()}, {2, -2, -4}, {5}})
	if code != impl.CodeOK || len(outs) != len(want) {
		t.Fatalf("%d %v", code, outs)
	}
	for op := range want {
		if !sameList(outs[op], want[op]) {
			t.Errorf("%s: %v, want %v", ruleOf(op).name, outs[op], want[op])
		}
	}
}

// P3: a product is rounded before it is added to anything.
func TestEvalRoundsEachOperation(t *testing.T) {
	x := 1 + 0x1p-30
	g := impl.Graph{Ins: []int{1}, Outs: []int{4}, Vals: []impl.Val{
		val(impl.OpInput, 1, 0, 0, 0), val(impl.OpMul, 1, 0, 0, 0), constant(1, -(1 + 0x1p-29)), val(impl.OpAdd, 1, 1, 2, 0), val(impl.OpMul, 1, 3, 3, 0)}}
	if outs, code := impl.Eval(g, [][]float64{{x}}); code != impl.CodeOK || !sameLists(outs, [][]float64{{0}}) {
		t.Errorf("%d %v", code, outs)
	}
}

func TestEvalWithoutValues(t *testing.T) {
	if outs, code := impl.Eval(impl.Graph{}, nil); code != impl.CodeOK || len(outs) != 0 {
		t.Errorf("%d %v", code, outs)
	}
	if outs, code := impl.Eval(impl.Graph{}, [][]float64{}); code != impl.CodeOK || len(outs) != 0 {
		t.Errorf("%d %v", code, outs)
	}
	only := impl.Graph{Ins: []int{2}}
	if outs, code := impl.Eval(only, [][]float64{{1, 2}}); code != impl.CodeOK || len(outs) != 0 {
		t.Errorf("%d %v", code, outs)
	}
	for _, in := range [][][]float64{nil, {nil}, {{1}}, {{1, 2, 3}}, {{1, 2}, {1, 2}}} {
		if outs, code := impl.Eval(only, in); code != impl.CodeShape || len(outs) != 0 {
			t.Errorf("%v: %d %v", in, code, outs)
		}
	}
}

// P3: inputs too few, too many, too short, too long; also those that no value uses.
func TestEvalInputsThatDoNotFit(t *testing.T) {
	g := impl.Graph{Ins: []int{2, 1, impl.MaxLen}, Outs: []int{0}, Vals: []impl.Val{val(impl.OpInput, 1, 1, 0, 0)}}
	long := make([]float64, impl.MaxLen+1)
	fit := long[:impl.MaxLen]
	if outs, code := impl.Eval(g, [][]float64{{1, 2}, {3}, fit}); code != impl.CodeOK || !sameLists(outs, [][]float64{{3}}) {
		t.Errorf("%d %v", code, outs)
	}
	bad := [][][]float64{
		nil, {}, {{1, 2}}, {{1, 2}, {3}}, {{1, 2}, {3}, fit, {4}}, {{1, 2}, {3}, fit, nil}, {{1}, {3}, fit}, {{1, 2, 3}, {3}, fit},
		{{1, 2}, nil, fit}, {{1, 2}, {3, 4}, fit}, {{1, 2}, {3}, fit[1:]}, {{1, 2}, {3}, long}, {{3}, {1, 2}, fit}, {nil, nil, nil},
	}
	for i, in := range bad {
		if outs, code := impl.Eval(g, in); code != impl.CodeShape || len(outs) != 0 {
			t.Errorf("case %d: %d %v", i, code, outs)
		}
	}
	if outs, code := impl.Eval(impl.Graph{}, [][]float64{nil}); code != impl.CodeShape || len(outs) != 0 {
		t.Errorf("%d %v", code, outs)
	}
}

// P3: a graph that is not valid is told ahead of inputs that do not fit.
func TestEvalBadGraph(t *testing.T) {
	bad := oneOf(impl.OpAdd)
	bad.Outs = []int{7}
	for _, in := range [][][]float64{nil, {{1}, {1, 2, 3}}, {{1}}, {{1}, {1, 2}}} {
		if outs, code := impl.Eval(bad, in); code != impl.CodeBad || len(outs) != 0 {
			t.Errorf("%v: %d %v", in, code, outs)
		}
	}
}

// P3: the greatest graphs are carried out too.
func TestEvalAtTheLimits(t *testing.T) {
	chain := impl.Graph{Ins: []int{25}, Vals: []impl.Val{val(impl.OpInput, 25, 0, 0, 0)}}
	for i := 1; i < impl.MaxVals; i++ {
		chain.Vals = append(chain.Vals, val(impl.OpAdd, 25, i-1, 0, 0))
	}
	for range impl.MaxOuts {
		chain.Outs = append(chain.Outs, impl.MaxVals-1)
	}
	outs, code := impl.Eval(chain, [][]float64{make([]float64, 25)})
	if code != impl.CodeOK || len(outs) != impl.MaxOuts {
		t.Fatalf("%d %d", code, len(outs))
	}
	ones := make([]float64, 25)
	for i := range ones {
		ones[i] = float64(i)
	}
	outs, _ = impl.Eval(chain, [][]float64{ones})
	for _, o := range outs {
		if len(o) != 25 || o[24] != 24*impl.MaxVals || o[1] != impl.MaxVals {
			t.Fatalf("%v", o)
		}
	}
	wide := impl.Graph{Ins: []int{1000}, Vals: []impl.Val{val(impl.OpInput, 1000, 0, 0, 0)}, Outs: []int{49}}
	for i := 1; i < 50; i++ {
		wide.Vals = append(wide.Vals, val(impl.OpNeg, 1000, i-1, 0, 0))
	}
	big := make([]float64, 1000)
	for i := range big {
		big[i] = math.Sqrt(float64(i))
	}
	outs, code = impl.Eval(wide, [][]float64{big})
	if code != impl.CodeOK || len(outs) != 1 || len(outs[0]) != 1000 || outs[0][4] != -2 {
		t.Errorf("%d", code)
	}
}

// P3: an output that stands twice is answered twice, in the order of Outs.
func TestEvalOutputsTwice(t *testing.T) {
	g := impl.Graph{Ins: []int{2}, Outs: []int{1, 0, 1, 0, 1}, Vals: []impl.Val{val(impl.OpInput, 2, 0, 0, 0), val(impl.OpNeg, 2, 0, 0, 0)}}
	outs, code := impl.Eval(g, [][]float64{{1, 0}})
	neg := []float64{-1, minusZero()}
	if code != impl.CodeOK || !sameLists(outs, [][]float64{neg, {1, 0}, neg, {1, 0}, neg}) {
		t.Errorf("%d %v", code, outs)
	}
}
