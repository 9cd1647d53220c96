package tests

import (
	"math"
	"slices"
	"strings"
	"testing"

	"loop.example/s08086/impl"
)

// unitOf answers the side on which the constant leaves the other operand as it is: "right", "both" or "".
func unitOf(op int, k float64) string {
	sides := map[string]string{"mul 1": "both", "div 1": "right", "sub 0": "right", "add -0": "both"}
	return sides[ruleOf(op).name+" "+floatText(k)]
}

// P8: each float on each side of each Op with two operands.
func TestPassUnitOfEveryPair(t *testing.T) {
	floats := []float64{1, -1, 0, minusZero(), math.NaN(), math.Inf(1), math.Inf(-1), 2, 0.5, 0x1.fffffffffffffp-1, 0x1.0000000000001p0, 5e-324}
	for _, op := range []int{impl.OpAdd, impl.OpSub, impl.OpMul, impl.OpDiv, impl.OpMax} {
		for _, k := range floats {
			for _, n := range []string{" : 1", " : 3"} {
				right, left, both := "3", "4", "5"
				if side := unitOf(op, k); side == "right" || side == "both" {
					right, both = "0", "1"
				}
				if unitOf(op, k) == "both" {
					left = "0"
				}
				g := "ins 1; const 9LEN; const KLEN; const KLEN; OP 0 1LEN; OP 1 0LEN; OP 1 2LEN; "
				g = strings.NewReplacer("LEN", n, "K", floatText(k), "OP", ruleOf(op).name).Replace(g)
				checkPass(t, impl.PassUnit, g+"outs 3 4 5", g+"outs "+right+" "+left+" "+both)
			}
		}
	}
}

// P8: with a unit on both sides it is the first operand.
func TestPassUnitOnBothSides(t *testing.T) {
	checkPass(t, impl.PassUnit,
		"ins; const 1; const 1; mul 0 1; mul 1 0; mul 1 1; div 1 0; outs 2 3 4 5", "ins; const 1; const 1; mul 0 1; mul 1 0; mul 1 1; div 1 0; outs 0 1 1 1",
		"ins; const -0; const -0; add 0 1; add 1 0; add 1 1; outs 2 3 4", "ins; const -0; const -0; add 0 1; add 1 0; add 1 1; outs 0 1 1",
		"ins; const 0; const 0; sub 0 1; sub 1 0; sub 1 1; outs 2 3 4", "ins; const 0; const 0; sub 0 1; sub 1 0; sub 1 1; outs 0 1 1",
		"ins; const 0; const -0; add 0 1; add 1 0; sub 0 1; sub 1 0; add 0 0; outs 2 3 4 5 6", "ins; const 0; const -0; add 0 1; add 1 0; sub 0 1; sub 1 0; add 0 0; outs 0 0 4 1 6")
}

// P8: every zero keeps its sign, so a zero of the wrong sign is no unit.
func TestPassUnitKeepsSigns(t *testing.T) {
	g := "ins 2; input 0 : 2; const 0 : 2; const -0 : 2; add 0 1 : 2; add 1 0 : 2; sub 0 2 : 2; sub 1 0 : 2; sub 2 0 : 2; add 0 2 : 2; add 2 0 : 2; sub 0 1 : 2; "
	checkPass(t, impl.PassUnit, g+"outs 3 4 5 6 7 8 9 10", g+"outs 3 4 5 6 7 0 0 0")
}

// P8: operands are replaced ahead of the look at a value, so a unit may be found behind values that were found equal.
func TestPassUnitBehindEqualValues(t *testing.T) {
	checkPass(t, impl.PassUnit,
		"ins 1; input 0; const 1; const -0; add 1 2; mul 0 3; outs 4 3", "ins 1; input 0; const 1; const -0; add 1 2; mul 0 1; outs 0 1",
		"ins 1; input 0; const 1; const 0; sub 1 2; div 3 1; mul 4 0; div 5 4; outs 4 5 6", "ins 1; input 0; const 1; const 0; sub 1 2; div 1 1; mul 1 0; div 0 1; outs 1 0 0",
		"ins 1; input 0; const 0; const 1; mul 1 2; sub 0 3; mul 3 2; sub 4 5; outs 6", "ins 1; input 0; const 0; const 1; mul 1 2; sub 0 1; mul 1 2; sub 0 1; outs 0",
		// a value found equal to one that was itself found equal
		"ins 1; input 0; const 1; mul 0 1; mul 2 1; div 3 1; mul 1 4; neg 5; outs 5 6", "ins 1; input 0; const 1; mul 0 1; mul 0 1; div 0 1; mul 1 0; neg 0; outs 0 6",
		// with a value in between that is equal to none
		"ins 1; input 0; const 1; mul 0 1; exp 2; mul 3 1; sel 4 2 4; sel 2 4 2; outs 5 6 4", "ins 1; input 0; const 1; mul 0 1; exp 0; mul 3 1; sel 3 0 3; sel 0 3 0; outs 5 6 3",
		// an input's number and a place are not replaced
		"ins 3 3 3; const 1 : 3; mul 0 0 : 3; div 1 0 : 3; input 2 : 3; mul 3 2 : 3; pick 4 @2; put 5 @2 : 3; outs 6", "ins 3 3 3; const 1 : 3; mul 0 0 : 3; div 0 0 : 3; input 2 : 3; mul 3 0 : 3; pick 3 @2; put 5 @2 : 3; outs 6")
}

// P8: only the four operations have units, and only an OpConst is one.
func TestPassUnitOfOthers(t *testing.T) {
	checkStays(t, impl.PassUnit,
		"ins 1; input 0; const 1; const 0; neg 1; max 0 1; max 1 0; sel 0 1 2; sel 1 0 2; exp 2; sum 1; fill 1; pick 1 @0; put 1 @0; outs 3 4 5 6 7 8 9 10 11 12",
		// values that are 1 or a zero, but no constants
		"ins 1; input 0; const 0; exp 1; mul 0 2; mul 2 0; div 0 2; neg 1; add 0 6; add 6 0; neg 6; sub 0 9; outs 3 4 5 7 8 10",
		"ins 3; input 0 : 3; const 1; fill 1 : 3; mul 0 2 : 3; div 0 2 : 3; outs 3 4")
}

// P8: chains of as many values as a graph holds.
func TestPassUnitInLongChains(t *testing.T) {
	g := impl.Graph{Ins: []int{3}, Vals: []impl.Val{val(impl.OpInput, 3, 0, 0, 0), constant(3, 1), constant(3, 0), constant(3, minusZero())}}
	for i := 4; i < impl.MaxVals; i++ {
		last := i - 1
		if i == 4 {
			last = 0
		}
		g.Vals = append(g.Vals, []impl.Val{val(impl.OpMul, 3, last, 1, 0), val(impl.OpMul, 3, 1, last, 0), val(impl.OpDiv, 3, last, 1, 0),
			val(impl.OpSub, 3, last, 2, 0), val(impl.OpAdd, 3, last, 3, 0), val(impl.OpAdd, 3, 3, last, 0)}[i%6])
	}
	for o := range impl.MaxOuts {
		g.Outs = append(g.Outs, impl.MaxVals-1-o)
	}
	got, code := passed(t, &source{85}, g, impl.PassUnit)
	if code != impl.CodeOK || !slices.Equal(got.Outs, make([]int, impl.MaxOuts)) {
		t.Errorf("code %d, outs %v", code, got.Outs)
	}
	small, code := optimised(t, &source{86}, g, []int{impl.PassUnit, impl.PassDead})
	if code != impl.CodeOK || told(small) != "ins 3; input 0 : 3; outs"+strings.Repeat(" 0", impl.MaxOuts) {
		t.Errorf("code %d, %.300s", code, told(small))
	}
}
