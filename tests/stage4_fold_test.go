package tests

import (
	"math"
	"slices"
	"strconv"
	"testing"

	"loop.example/s08086/impl"
)

// P8: values made of constants become constants, and so do those made of them.
func TestPassFold(t *testing.T) {
	checkPass(t, impl.PassFold,
		"ins; const 2; const 3; add 0 1; outs 2 2", "ins; const 2; const 3; const 5; outs 2 2",
		"ins; const 2 : 3; neg 0 : 3; outs 1", "ins; const 2 : 3; const -2 : 3; outs 1",
		"ins; const 2 : 1000; const 8 : 1000; div 0 1 : 1000; outs 2", "ins; const 2 : 1000; const 8 : 1000; const 0.25 : 1000; outs 2",
		"ins; const 7; const 9; sub 0 1; mul 0 1; max 0 1; max 1 0; exp 2; outs 6", "ins; const 7; const 9; const -2; const 63; const 9; const 9; const "+floatText(impl.ExpFloat(-2))+"; outs 6",
		"ins; const 1 : 2; const 2 : 2; const 3 : 2; sel 0 1 2 : 2; neg 0 : 2; sel 4 1 2 : 2; outs 3 5", "ins; const 1 : 2; const 2 : 2; const 3 : 2; const 2 : 2; const -1 : 2; const 3 : 2; outs 3 5",
		"ins; const 4 : 3; pick 0 @2; fill 1 : 2; sum 2; sum 3; outs 4", "ins; const 4 : 3; const 4; const 4 : 2; const 8; const 8; outs 4",
		"ins; const 1; add 0 0; add 1 1; add 2 2; add 3 3; outs 4", "ins; const 1; const 2; const 4; const 8; const 16; outs 4")
}

func floatText(f float64) string {
	return strconv.FormatFloat(f, 'g', -1, 64)
}

// P8: nothing folds that an operand other than a constant goes into, and neither inputs nor constants do.
func TestPassFoldOfOthers(t *testing.T) {
	checkStays(t, impl.PassFold,
		"ins 1; input 0; const 1; add 0 1; add 1 0; sub 0 0; mul 2 1; outs 2 3 4 5",
		"ins 2; input 0 : 2; const 1 : 2; const 1 : 2; sel 0 1 2 : 2; sel 1 0 2 : 2; sel 1 2 0 : 2; outs 3 4 5",
		"ins 1; input 0; fill 0 : 2; pick 1 @1; sum 1; put 0 @0; exp 0; neg 0; outs 2 3 4 5 6",
		// the first value is a constant, and so is the one with the index of each spare field
		"ins 1; const 0; input 0; outs 1",
		"ins 1; const 0; input 0; neg 1; pick 1 @0; outs 2 3",
		"ins; const 1; const 1; const 0x7ff0000000000001; outs 0 1 2")
	checkPass(t, impl.PassFold,
		"ins 1; input 0; const 1; neg 1; mul 0 2; exp 2; sub 4 3; outs 5", "ins 1; input 0; const 1; const -1; mul 0 2; const "+floatText(impl.ExpFloat(-1))+"; sub 4 3; outs 5")
}

// P8: a value whose elements differ is no constant, and a zero differs from the other zero.
func TestPassFoldOfPut(t *testing.T) {
	checkPass(t, impl.PassFold,
		"ins; const 4; put 0 @1 : 2; put 0 @0; outs 1 2", "ins; const 4; put 0 @1 : 2; const 4; outs 1 2",
		"ins; const 0; put 0 @1 : 2; put 0 @0; put 0 @0 : 1000; outs 1 2 3", "ins; const 0; const 0 : 2; const 0; const 0 : 1000; outs 1 2 3",
		"ins; const -0; put 0 @1 : 2; put 0 @0 : 2; put 0 @0; outs 1 2 3", "ins; const -0; put 0 @1 : 2; put 0 @0 : 2; const -0; outs 1 2 3",
		"ins; const NaN; put 0 @999 : 1000; put 0 @0; outs 1 2", "ins; const NaN; put 0 @999 : 1000; const NaN; outs 1 2",
		"ins; const Inf; put 0 @0 : 2; put 0 @0; outs 1 2", "ins; const Inf; put 0 @0 : 2; const Inf; outs 1 2",
		"ins; const 5e-324; put 0 @0 : 2; put 0 @0; outs 1 2", "ins; const 5e-324; put 0 @0 : 2; const 5e-324; outs 1 2",
		// what is made of an OpPut that is no constant is none either, though its elements are known
		"ins; const 4; put 0 @1 : 2; pick 1 @1; neg 1 : 2; sum 1; const 0 : 2; mul 1 5 : 2; outs 2 3 4 6", "ins; const 4; put 0 @1 : 2; pick 1 @1; neg 1 : 2; sum 1; const 0 : 2; mul 1 5 : 2; outs 2 3 4 6",
		"ins; const 0; put 0 @1 : 2; pick 1 @1; neg 1 : 2; sum 3; outs 2 3 4", "ins; const 0; const 0 : 2; const 0; const -0 : 2; const -0; outs 2 3 4")
}

// P8: NaNs, infinities and the signs of zeros fold to what Eval answers.
func TestPassFoldOfEdges(t *testing.T) {
	checkPass(t, impl.PassFold,
		"ins; const 0; const -0; div 0 0; div 0 1; outs 2 3", "ins; const 0; const -0; const NaN; const NaN; outs 2 3",
		"ins; const 0; const -0; const 1; div 2 0; div 2 1; sub 3 3; add 3 4; mul 3 0; outs 3 4 5 6 7", "ins; const 0; const -0; const 1; const Inf; const -Inf; const NaN; const NaN; const NaN; outs 3 4 5 6 7",
		"ins; const 0; const -0; add 0 1; add 1 1; sub 1 0; sub 0 0; mul 1 0; max 0 1; max 1 0; neg 0; outs 2 3 4 5 6 7 8 9", "ins; const 0; const -0; const 0; const -0; const -0; const 0; const -0; const -0; const 0; const -0; outs 2 3 4 5 6 7 8 9",
		"ins; const NaN : 3; const 1 : 3; max 0 1 : 3; max 1 0 : 3; sel 0 0 1 : 3; sel 1 0 1 : 3; sum 0; neg 0 : 3; exp 0 : 3; outs 2 3 4 5 6 7 8", "ins; const NaN : 3; const 1 : 3; const 1 : 3; const NaN : 3; const 1 : 3; const NaN : 3; const NaN; const NaN : 3; const NaN : 3; outs 2 3 4 5 6 7 8",
		"ins; const 0xfff0000000000001 : 2; const 0x7ff8000000000001 : 2; add 0 1 : 2; sel 1 0 1 : 2; outs 2 3", "ins; const NaN : 2; const NaN : 2; const NaN : 2; const NaN : 2; outs 2 3",
		"ins; const 1001; exp 0; neg 0; exp 2; neg 1; outs 1 3 4", "ins; const 1001; const Inf; const -1001; const 0; const -Inf; outs 1 3 4",
		"ins; const -0 : 5; sum 0; const 0; const 5e-324; const 0.5; mul 3 4; neg 3; mul 6 4; outs 1 5 7", "ins; const -0 : 5; const -0; const 0; const 5e-324; const 0.5; const 0; const -5e-324; const -0; outs 1 5 7")
}

// P8: a sum of many is rounded as often as Eval rounds it.
func TestPassFoldOfLongSums(t *testing.T) {
	for _, k := range []float64{0.1, 1.0 / 3, 1e16, -0.7, math.MaxFloat64, math.SmallestNonzeroFloat64, minusZero()} {
		for _, n := range []int{1, 2, 3, 10, 999, impl.MaxLen} {
			s := k
			for range n - 1 {
				s += k
			}
			length := " : " + strconv.Itoa(n)
			checkPass(t, impl.PassFold, "ins; const "+floatText(k)+length+"; sum 0; outs 1", "ins; const "+floatText(k)+length+"; const "+floatText(s)+"; outs 1")
		}
	}
	if s, _ := impl.RunPass(readGraph(t, "ins; const 0.1 : 1000; sum 0; outs 1"), impl.PassFold); s.Vals[1].K == 100 {
		t.Errorf("a sum is not a product")
	}
}

// P8: what folds has no K, A, B or C of its own any more.
func TestPassFoldLeavesNoField(t *testing.T) {
	for op := impl.OpAdd; op <= impl.OpExp; op++ {
		v := impl.Val{Op: op, Len: 1, K: 77}
		for _, f := range fieldsOf(&v)[:ruleOf(op).operands] {
			*f = 1
		}
		g := impl.Graph{Vals: []impl.Val{constant(1, 5), constant(1, 3), v}, Outs: []int{2}}
		got, code := passed(t, &source{82}, g, impl.PassFold)
		want := constant(1, wantKernel(v, []float64{3}, []float64{3}, []float64{3})[0])
		if code != impl.CodeOK || got.Vals[2] != want {
			t.Errorf("%s: %+v, want %+v", ruleOf(op).name, got.Vals[2], want)
		}
	}
}

// P8: chains of as many values and elements as a graph holds.
func TestPassFoldInLongChains(t *testing.T) {
	g := impl.Graph{Vals: []impl.Val{constant(25, 1)}, Outs: []int{impl.MaxVals - 1}}
	for i := 1; i < impl.MaxVals; i++ {
		g.Vals = append(g.Vals, val(impl.OpSub, 25, 0, i-1, 0))
	}
	got, code := passed(t, &source{83}, g, impl.PassFold)
	if code != impl.CodeOK || slices.ContainsFunc(got.Vals, func(v impl.Val) bool { return v.Op != impl.OpConst }) || got.Vals[impl.MaxVals-1].K != 0 {
		t.Errorf("code %d, %.300s", code, told(got))
	}
	sums := impl.Graph{Vals: []impl.Val{constant(impl.MaxLen, 0.1)}}
	for range impl.MaxVals - 1 {
		sums.Vals = append(sums.Vals, val(impl.OpSum, 1, 0, 0, 0))
	}
	got, code = passed(t, &source{84}, sums, impl.PassFold)
	if code != impl.CodeOK || !sameMeaning(impl.Graph{Vals: got.Vals[1:2]}, impl.Graph{Vals: got.Vals[impl.MaxVals-1:]}) || got.Vals[1].Op != impl.OpConst {
		t.Errorf("code %d, %.300s", code, told(got))
	}
}
