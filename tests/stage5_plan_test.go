package tests

import (
	"math"
	"slices"
	"strconv"
	"strings"
	"testing"

	"loop.example/s08086/impl"
)

// checkPlans takes pairs of a graph and its plan, as told and toldCode tell them.
func checkPlans(t *testing.T, pairs ...string) {
	t.Helper()
	s := &source{110}
	for i := 0; i < len(pairs); i += 2 {
		g := readGraph(t, pairs[i])
		want := readCode(t, pairs[i+1])
		for _, from := range []impl.Graph{g, withStrayK(g)} {
			if got := checkPlan(t, s, from); !sameCode(got, want) {
				t.Errorf("plan of %s:\n got %s\nwant %s", pairs[i], toldCode(got), toldCode(want))
			}
		}
	}
}

// P11 and P12: graphs without values, with inputs and without.
func TestPlanOfNothing(t *testing.T) {
	checkPlans(t,
		"ins; outs", "ins; outs; peak 0",
		"ins 3 1; outs", "ins 3 1; outs; peak 0",
	)
	for budget, want := range map[int]int{0: impl.CodeOK, -1: impl.CodeBudget, math.MinInt: impl.CodeBudget, 1: impl.CodeOK, math.MaxInt: impl.CodeOK} {
		if c, code := planned(t, impl.Graph{}, budget); code != want || !sameCode(c, impl.Code{}) {
			t.Errorf("budget %d: code %d, %s", budget, code, toldCode(c))
		}
	}
}

// P11: what each value takes and when its operands' cells are free again.
func TestPlanPlaces(t *testing.T) {
	checkPlans(t,
		// one after another
		"ins 3; input 0 : 3; mul 0 0 : 3; sum 1; outs 2",
		"ins 3; input 0 > 0+3; mul 0+3 0+3 > 3+3; sum 3+3 > 0+1; outs 0+1; peak 6",
		// the operand is not free before the value has its place
		"ins 1; input 0; neg 0; neg 1; neg 2; outs 3",
		"ins 1; input 0 > 0+1; neg 0+1 > 1+1; neg 1+1 > 0+1; neg 0+1 > 1+1; outs 1+1; peak 2",
		"ins 1; input 0; fill 0 : 3; sum 1; outs 2",
		"ins 1; input 0 > 0+1; fill 0+1 > 1+3; sum 1+3 > 0+1; outs 0+1; peak 4",
		"ins 3; input 0 : 3; pick 0 @2; put 1 @1 : 2; outs 2",
		"ins 3; input 0 > 0+3; pick 0+3 @2 > 3+1; put 3+1 @1 > 0+2; outs 0+2; peak 4",
		// only the last user frees
		"ins 1; input 0; neg 0; add 0 1; neg 2; exp 3; outs 4",
		"ins 1; input 0 > 0+1; neg 0+1 > 1+1; add 0+1 1+1 > 2+1; neg 2+1 > 0+1; exp 0+1 > 1+1; outs 1+1; peak 3",
		// a user that no output needs is a user all the same
		"ins 1; input 0; neg 0; exp 0; const 2; neg 0; const 3; outs 1 3 5",
		"ins 1; input 0 > 0+1; neg 0+1 > 1+1; exp 0+1 > 2+1; const 2 > 2+1; neg 0+1 > 3+1; const 3 > 0+1; outs 1+1 2+1 0+1; peak 4",
		// an input that is read twice has two places
		"ins 2; input 0 : 2; input 0 : 2; add 0 1 : 2; outs 2",
		"ins 2; input 0 > 0+2; input 0 > 2+2; add 0+2 2+2 > 4+2; outs 4+2; peak 6",
	)
}

// P11: values that nothing uses, as outputs and not.
func TestPlanOfWhatNothingUses(t *testing.T) {
	checkPlans(t,
		"ins; const 7 : 3; const 8; const 9 : 2; outs 1",
		"ins; const 7 > 0+3; const 8 > 0+1; const 9 > 1+2; outs 0+1; peak 3",
		"ins; const 7 : 2; const 8; outs 1 0",
		"ins; const 7 > 0+2; const 8 > 2+1; outs 2+1 0+2; peak 3",
		"ins; const 7; outs",
		"ins; const 7 > 0+1; outs; peak 1",
		"ins 2; input 0 : 2; neg 0 : 2; neg 1 : 2; outs",
		"ins 2; input 0 > 0+2; neg 0+2 > 2+2; neg 2+2 > 0+2; outs; peak 4",
		// what nothing uses takes its place while its operand still has its own
		"ins 1; input 0; neg 0; const 1 : 2; outs",
		"ins 1; input 0 > 0+1; neg 0+1 > 1+1; const 1 > 0+2; outs; peak 2",
		// the cells at the end, free again, and those beyond make one run
		"ins; const 1; const 2; const 3 : 5; outs 0 2",
		"ins; const 1 > 0+1; const 2 > 1+1; const 3 > 1+5; outs 0+1 1+5; peak 6",
		// an input that nothing uses
		"ins 2 1; input 0 : 2; input 1; outs 1",
		"ins 2 1; input 0 > 0+2; input 1 > 0+1; outs 0+1; peak 2",
	)
}

// P11: an operand in several fields of its last user is freed once.
func TestPlanOfOperandsTwice(t *testing.T) {
	checkPlans(t,
		"ins 1; input 0; mul 0 0; const 1; const 2; add 2 3; outs 1 4",
		"ins 1; input 0 > 0+1; mul 0+1 0+1 > 1+1; const 1 > 0+1; const 2 > 2+1; add 0+1 2+1 > 3+1; outs 1+1 3+1; peak 4",
		"ins 1; input 0; sel 0 0 0; const 1; const 2; outs 1 2 3",
		"ins 1; input 0 > 0+1; sel 0+1 0+1 0+1 > 1+1; const 1 > 0+1; const 2 > 2+1; outs 1+1 0+1 2+1; peak 3",
		"ins 1; input 0; const 5; sel 0 1 0; const 1 : 2; const 2; outs 2 3 4",
		"ins 1; input 0 > 0+1; const 5 > 1+1; sel 0+1 1+1 0+1 > 2+1; const 1 > 0+2; const 2 > 3+1; outs 2+1 0+2 3+1; peak 4",
		"ins 1; const 5; input 0; sel 0 1 1; const 1 : 3; const 2; outs 2 3 4",
		"ins 1; const 5 > 0+1; input 0 > 1+1; sel 0+1 1+1 1+1 > 2+1; const 1 > 3+3; const 2 > 0+1; outs 2+1 3+3 0+1; peak 6",
	)
}

// P11: outputs stay, whoever uses them, however often they are given.
func TestPlanOfOutputs(t *testing.T) {
	checkPlans(t,
		"ins 1; input 0; neg 0; neg 1; neg 2; outs 1 3",
		"ins 1; input 0 > 0+1; neg 0+1 > 1+1; neg 1+1 > 0+1; neg 0+1 > 2+1; outs 1+1 2+1; peak 3",
		"ins 1; input 0; neg 0; neg 1; outs 1 1 0 0",
		"ins 1; input 0 > 0+1; neg 0+1 > 1+1; neg 1+1 > 2+1; outs 1+1 1+1 0+1 0+1; peak 3",
		"ins 2 1; input 1; input 0 : 2; outs 1 0 1",
		"ins 2 1; input 1 > 0+1; input 0 > 1+2; outs 1+2 0+1 1+2; peak 3",
		"ins 1; input 0; add 0 0; add 1 1; add 2 2; outs 0 1 2 3",
		"ins 1; input 0 > 0+1; add 0+1 0+1 > 1+1; add 1+1 1+1 > 2+1; add 2+1 2+1 > 3+1; outs 0+1 1+1 2+1 3+1; peak 4",
	)
}

// P11: gaps between cells in use.
func TestPlanOfGaps(t *testing.T) {
	checkPlans(t,
		// one that fits
		"ins; const 1 : 2; const 2; neg 0 : 2; const 3 : 2; const 4; outs 1 2 3 4",
		"ins; const 1 > 0+2; const 2 > 2+1; neg 0+2 > 3+2; const 3 > 0+2; const 4 > 5+1; outs 2+1 3+2 0+2 5+1; peak 6",
		// one that is too small by one, and then is used in two parts
		"ins; const 1 : 2; const 2; neg 0 : 2; const 3 : 3; const 4; const 5; const 6; outs 1 2 3 4 5 6",
		"ins; const 1 > 0+2; const 2 > 2+1; neg 0+2 > 3+2; const 3 > 5+3; const 4 > 0+1; const 5 > 1+1; const 6 > 8+1; outs 2+1 3+2 5+3 0+1 1+1 8+1; peak 9",
		// of two gaps the first that is wide enough, not the one that fits best
		"ins; const 1 : 3; const 2; const 3 : 1; const 4; sum 0; neg 2; const 5; const 6; outs 1 3 4 5 6 7",
		"ins; const 1 > 0+3; const 2 > 3+1; const 3 > 4+1; const 4 > 5+1; sum 0+3 > 6+1; neg 4+1 > 0+1; const 5 > 1+1; const 6 > 2+1; outs 3+1 5+1 6+1 0+1 1+1 2+1; peak 7",
		// neighbours that one value frees together
		"ins; const 1; const 2; const 3; const 4; sel 0 1 2; const 5 : 3; const 6 : 4; outs 3 4 5 6",
		"ins; const 1 > 0+1; const 2 > 1+1; const 3 > 2+1; const 4 > 3+1; sel 0+1 1+1 2+1 > 4+1; const 5 > 0+3; const 6 > 5+4; outs 3+1 4+1 0+3 5+4; peak 9",
		// a neighbour that is freed is not joined to one beyond cells in use
		"ins; const 1; const 2; const 3; sub 0 2; const 5 : 2; const 6; const 7; outs 1 3 4 5 6",
		"ins; const 1 > 0+1; const 2 > 1+1; const 3 > 2+1; sub 0+1 2+1 > 3+1; const 5 > 4+2; const 6 > 0+1; const 7 > 2+1; outs 1+1 3+1 4+2 0+1 2+1; peak 6",
	)
}

// P11: neighbours that are freed one by one, in every order, make one gap.
func TestPlanOfNeighboursInEveryOrder(t *testing.T) {
	for _, order := range [][]int{{0, 1, 2}, {0, 2, 1}, {1, 0, 2}, {1, 2, 0}, {2, 0, 1}, {2, 1, 0}} {
		g := []string{"ins; const 1; const 2; const 3; const 4"}
		c := []string{"ins; const 1 > 0+1; const 2 > 1+1; const 3 > 2+1; const 4 > 3+1"}
		for k, o := range order {
			g = append(g, "fill "+strconv.Itoa(o)+" : 4")
			c = append(c, "fill "+strconv.Itoa(o)+"+1 > "+strconv.Itoa(4+4*k)+"+4")
		}
		g = append(g, "const 5 : 3", "const 6", "outs 3 4 5 6 7 8")
		c = append(c, "const 5 > 0+3", "const 6 > 16+1", "outs 3+1 4+4 8+4 12+4 0+3 16+1", "peak 17")
		checkPlans(t, strings.Join(g, "; "), strings.Join(c, "; "))
	}
}

// P11: every field of a step of every Op.
func TestPlanFields(t *testing.T) {
	nan := math.Float64frombits(0xfff0000000000123)
	g := impl.Graph{Ins: []int{3, 1}, Outs: []int{0, 1, 2, 3, 4, 5, 6, 7, 8, 9, 10, 11, 12, 13, 14, 15}, Vals: []impl.Val{
		{Op: impl.OpInput, Len: 1, A: 1, K: 9}, {Op: impl.OpInput, Len: 3, A: 0, K: nan}, {Op: impl.OpConst, Len: 3, K: minusZero()},
		{Op: impl.OpAdd, Len: 3, A: 1, B: 2, K: 1}, {Op: impl.OpSub, Len: 3, A: 2, B: 1, K: 1}, {Op: impl.OpMul, Len: 3, A: 1, B: 1, K: 1},
		{Op: impl.OpDiv, Len: 3, A: 2, B: 3, K: 1}, {Op: impl.OpNeg, Len: 3, A: 1, K: 1}, {Op: impl.OpMax, Len: 3, A: 4, B: 2, K: 1},
		{Op: impl.OpSel, Len: 3, A: 1, B: 2, C: 3, K: 1}, {Op: impl.OpSum, Len: 1, A: 1, K: 1}, {Op: impl.OpFill, Len: 3, A: 10, K: 1},
		{Op: impl.OpPick, Len: 1, A: 1, C: 2, K: 1}, {Op: impl.OpPut, Len: 3, A: 12, C: 1, K: 1}, {Op: impl.OpExp, Len: 3, A: 2, K: 1},
		{Op: impl.OpConst, Len: 1, K: nan},
	}}
	want := []impl.Step{
		{Op: impl.OpInput, Len: 1, Dst: 0, A: 1}, {Op: impl.OpInput, Len: 3, Dst: 1, A: 0}, {Op: impl.OpConst, Len: 3, Dst: 4, K: minusZero()},
		{Op: impl.OpAdd, Len: 3, N: 3, Dst: 7, A: 1, B: 4}, {Op: impl.OpSub, Len: 3, N: 3, Dst: 10, A: 4, B: 1}, {Op: impl.OpMul, Len: 3, N: 3, Dst: 13, A: 1, B: 1},
		{Op: impl.OpDiv, Len: 3, N: 3, Dst: 16, A: 4, B: 7}, {Op: impl.OpNeg, Len: 3, N: 3, Dst: 19, A: 1}, {Op: impl.OpMax, Len: 3, N: 3, Dst: 22, A: 10, B: 4},
		{Op: impl.OpSel, Len: 3, N: 3, Dst: 25, A: 1, B: 4, C: 7}, {Op: impl.OpSum, Len: 1, N: 3, Dst: 28, A: 1}, {Op: impl.OpFill, Len: 3, N: 1, Dst: 29, A: 28},
		{Op: impl.OpPick, Len: 1, N: 3, Dst: 32, A: 1, C: 2}, {Op: impl.OpPut, Len: 3, N: 1, Dst: 33, A: 32, C: 1}, {Op: impl.OpExp, Len: 3, N: 3, Dst: 36, A: 4},
		{Op: impl.OpConst, Len: 1, Dst: 39, K: nan},
	}
	got := checkPlan(t, &source{111}, g)
	if !sameCode(impl.Code{Steps: got.Steps}, impl.Code{Steps: want}) || got.Peak != 40 || !slices.Equal(got.Ins, g.Ins) {
		t.Errorf("%+v", got)
	}
	for i, o := range got.Outs {
		if o != (impl.Span{Off: want[i].Dst, Len: want[i].Len}) {
			t.Errorf("output %d lies at %v", i, o)
		}
	}
}

// P11 and P12: a graph that is not valid is told ahead of a budget that is too small.
func TestPlanOfGraphsThatAreNotValid(t *testing.T) {
	for i, g := range withFaults(t) {
		for _, budget := range []int{math.MinInt, -1, 0, 1, impl.MaxCells, math.MaxInt} {
			if c, code := planned(t, g, budget); code != impl.CodeBad || !sameCode(c, impl.Code{}) {
				t.Errorf("graph %d, budget %d: code %d, %s", i, budget, code, toldCode(c))
			}
		}
	}
}

// P11 and P12: graphs as great as they may be.
func TestPlanAtTheLimits(t *testing.T) {
	s := &source{112}
	all := impl.Graph{Ins: []int{impl.MaxLen}}
	for i := range impl.MaxOuts {
		all.Vals = append(all.Vals, []impl.Val{val(impl.OpInput, impl.MaxLen, 0, 0, 0), constant(impl.MaxLen, float64(i))}[i%2])
		all.Outs = append(all.Outs, i)
	}
	if c := checkPlan(t, s, all); c.Peak != impl.MaxCells {
		t.Errorf("peak %d", c.Peak)
	}
	// with no cell left, those at the very end come free: its own, and those of an operand
	all.Outs = all.Outs[:impl.MaxOuts-1]
	if c := checkPlan(t, s, all); c.Peak != impl.MaxCells {
		t.Errorf("peak %d", c.Peak)
	}
	all.Vals[48] = constant(999, 1)
	all.Vals = append(all.Vals, val(impl.OpSum, 1, 49, 0, 0))
	all.Outs[48] = 50
	if c := checkPlan(t, s, all); c.Peak != 49001 || c.Steps[49].Dst != 48000 || c.Steps[50].Dst != 49000 {
		t.Errorf("peak %d, %v", c.Peak, c.Steps[48:])
	}
	all.Outs = append(all.Outs, 48)
	if c := checkPlan(t, s, all); c.Peak != impl.MaxCells || c.Steps[50].Dst != 49999 {
		t.Errorf("peak %d, %v", c.Peak, c.Steps[48:])
	}
	// every value is used by the last ones alone, so that all cells are in use before them
	long := impl.Graph{Outs: []int{impl.MaxVals - 1}}
	for range impl.MaxVals / 2 {
		long.Vals = append(long.Vals, constant(25, 1))
	}
	for i := len(long.Vals); i < impl.MaxVals; i++ {
		long.Vals = append(long.Vals, val(impl.OpAdd, 25, i-1, impl.MaxVals-1-i, 0))
	}
	if c := checkPlan(t, s, long); c.Peak != 25*(impl.MaxVals/2+1) {
		t.Errorf("peak %d", c.Peak)
	}
	chain := impl.Graph{Ins: []int{25}, Vals: []impl.Val{val(impl.OpInput, 25, 0, 0, 0)}}
	for i := 1; i < impl.MaxVals; i++ {
		chain.Vals = append(chain.Vals, val(impl.OpNeg, 25, i-1, 0, 0))
	}
	if c := checkPlan(t, s, chain); c.Peak != 50 {
		t.Errorf("peak %d", c.Peak)
	}
	many := impl.Graph{Ins: slices.Repeat([]int{3}, impl.MaxIns)}
	for i := range impl.MaxIns {
		many.Vals = append(many.Vals, val(impl.OpInput, 3, i, 0, 0))
	}
	many.Outs = []int{0, 19}
	if c := checkPlan(t, s, many); c.Peak != 6 || c.Steps[19].A != 19 {
		t.Errorf("%s", toldCode(c))
	}
}
