package tests

import (
	"slices"
	"strconv"
	"strings"
	"testing"

	"loop.example/s08086/impl"
)

// P8: graphs in which no pass finds anything but PassDead.
func TestPassesOfSmallGraphs(t *testing.T) {
	for _, p := range everyPass() {
		checkStays(t, p,
			"ins; outs",
			"ins 3 1; outs",
			"ins 1; input 0; outs 0",
			"ins 1; input 0; outs 0 0",
			"ins 2 1; input 0 : 2; input 1; outs 1 0 1",
			"ins; const 0x7ff8000000000001 : 1000; outs 0 0")
		if p != impl.PassDead {
			checkStays(t, p, "ins 1; input 0; neg 0; exp 1; const 7; outs", "ins 1 1; input 0; input 1; add 0 1; max 1 0; outs 2")
		}
	}
}

// P9: what no output needs is left out, and what is left is numbered anew.
func TestPassDead(t *testing.T) {
	checkPass(t, impl.PassDead,
		"ins 1; input 0; neg 0; outs", "ins 1; outs",
		"ins 1 2; input 0; input 1 : 2; outs 1", "ins 1 2; input 1 : 2; outs 0",
		"ins 1 2; input 0; input 1 : 2; outs 1 1 1", "ins 1 2; input 1 : 2; outs 0 0 0",
		"ins 1; input 0; const 3; neg 0; add 2 2; outs 2 2", "ins 1; input 0; neg 0; outs 1 1",
		// values needed by values that are not needed
		"ins 1; input 0; neg 0; exp 1; mul 1 2; const 2; outs 4", "ins 1; const 2; outs 0",
		"ins 1; input 0; neg 0; exp 0; mul 1 2; max 3 1; outs 2", "ins 1; input 0; exp 0; outs 1",
		"ins 1; input 0; const 1; const 2; const 3; const 4; sel 2 4 0; const 5; outs 5", "ins 1; input 0; const 2; const 4; sel 1 2 0; outs 3",
		"ins 1; const 9; input 0; const 8; const 7; div 3 1; const 6; sub 4 3; outs 4 6 1", "ins 1; input 0; const 7; div 1 0; sub 2 1; outs 2 3 0")
}

// P9: an input's number and a place are no operands, whatever value has that index.
func TestPassDeadFieldsThatAreNoOperands(t *testing.T) {
	checkPass(t, impl.PassDead,
		"ins 1 1 1; const 5; const 6; input 2; outs 2", "ins 1 1 1; input 2; outs 0",
		"ins 1 1 1; const 5; input 0; const 6; input 1; add 1 3; outs 4", "ins 1 1 1; input 0; input 1; add 0 1; outs 2",
		"ins 3; const 7; input 0 : 3; pick 1 @0; outs 2", "ins 3; input 0 : 3; pick 0 @0; outs 1",
		"ins 3; const 7; const 8; input 0 : 3; pick 2 @1; outs 3", "ins 3; input 0 : 3; pick 0 @1; outs 1",
		"ins 3; const 7; const 8; const 9; input 0 : 3; pick 3 @2; outs 4", "ins 3; input 0 : 3; pick 0 @2; outs 1",
		"ins; const 7; const 8; put 1 @0 : 2; outs 2", "ins; const 8; put 0 @0 : 2; outs 1",
		"ins; const 7; const 8; const 9; put 2 @1 : 2; outs 3", "ins; const 9; put 0 @1 : 2; outs 1",
		// the fields B and C of one operand, and all three of a constant, are 0 and name no value
		"ins; const 7; const 8; neg 1; outs 2", "ins; const 8; neg 0; outs 1",
		"ins; const 7; const 8; add 1 1; outs 2", "ins; const 8; add 0 0; outs 1",
		"ins; const 7; const 8; outs 1", "ins; const 8; outs 0")
}

// P8: values with the same Op, Len and fields are one.
func TestPassCommon(t *testing.T) {
	checkPass(t, impl.PassCommon,
		"ins 1; input 0; neg 0; neg 0; outs 2 1", "ins 1; input 0; neg 0; neg 0; outs 1 1",
		"ins 1; input 0; neg 0; neg 0; neg 0; add 2 3; outs 3 4", "ins 1; input 0; neg 0; neg 0; neg 0; add 1 1; outs 1 4",
		"ins 2 2; input 0 : 2; input 1 : 2; input 0 : 2; outs 2 1 0", "ins 2 2; input 0 : 2; input 1 : 2; input 0 : 2; outs 0 1 0",
		"ins 1; input 0; sel 0 0 0; sel 0 0 0; sel 0 1 2; sel 0 2 1; outs 2 4", "ins 1; input 0; sel 0 0 0; sel 0 0 0; sel 0 1 1; sel 0 1 1; outs 1 3",
		"ins 3; input 0 : 3; pick 0 @2; pick 0 @2; put 1 @1 : 3; put 2 @1 : 3; outs 4", "ins 3; input 0 : 3; pick 0 @2; pick 0 @2; put 1 @1 : 3; put 1 @1 : 3; outs 3",
		"ins 1; input 0; fill 0 : 2; fill 0 : 2; sum 2; sum 1; outs 4", "ins 1; input 0; fill 0 : 2; fill 0 : 2; sum 1; sum 1; outs 3")
	checkStays(t, impl.PassCommon,
		// operands in the other order, another Op, another Len, another place, another number
		"ins 1 1; input 0; input 1; add 0 1; add 1 0; sub 0 1; mul 0 1; outs 3 2 4 5",
		"ins 1; input 0; neg 0; exp 0; sum 0; fill 0; pick 0 @0; put 0 @0; outs 1 2 3 4 5 6",
		"ins 1; input 0; fill 0 : 2; fill 0 : 3; put 0 @1 : 2; put 0 @1 : 3; outs 2 4",
		"ins 3; input 0 : 3; pick 0 @0; pick 0 @1; put 1 @0 : 2; put 1 @1 : 2; outs 2 4",
		"ins; const 1; const 1 : 2; const 2; outs 1 2",
		"ins 1 1; input 0; input 1; sel 0 0 1; sel 0 1 0; sel 1 0 0; max 0 1; max 1 0; outs 2 3 4 5 6")
}

// P8: values become the same once their operands are, along whole chains.
func TestPassCommonInChains(t *testing.T) {
	checkPass(t, impl.PassCommon,
		"ins 1; input 0; input 0; neg 0; neg 1; exp 2; exp 3; sub 4 5; sub 5 4; outs 7 5",
		"ins 1; input 0; input 0; neg 0; neg 0; exp 2; exp 2; sub 4 4; sub 4 4; outs 6 4",
		"ins; const 2; const 2; const 2; mul 0 1; mul 2 2; mul 1 0; max 5 4; outs 4 5 6",
		"ins; const 2; const 2; const 2; mul 0 0; mul 0 0; mul 0 0; max 3 3; outs 3 3 6",
		// the first of all such values, not the last
		"ins 1; input 0; exp 0; neg 0; exp 0; neg 0; exp 0; add 5 4; add 3 2; outs 7 5",
		"ins 1; input 0; exp 0; neg 0; exp 0; neg 0; exp 0; add 1 2; add 1 2; outs 6 1")
	long := []string{"ins 1", "input 0", "input 0"}
	want := slices.Clone(long)
	for i := 2; i < impl.MaxVals; i += 2 {
		long = append(long, "neg "+strconv.Itoa(i-2), "neg "+strconv.Itoa(i-1))
		want = append(want, "neg "+strconv.Itoa(i-2), "neg "+strconv.Itoa(i-2))
	}
	checkPass(t, impl.PassCommon, strings.Join(long, ";")+";outs 1998 1999", strings.Join(want, ";")+";outs 1998 1998")
}

// P8: an input's number and a place are not replaced, whatever value with that index is equal to another.
func TestPassCommonFieldsThatAreNoOperands(t *testing.T) {
	checkPass(t, impl.PassCommon,
		"ins 1 1; input 0; input 0; input 1; input 1; outs 1 3", "ins 1 1; input 0; input 0; input 1; input 1; outs 0 2",
		"ins 3; const 1; const 1; const 1; input 0 : 3; pick 3 @1; pick 3 @2; outs 4 5 2", "ins 3; const 1; const 1; const 1; input 0 : 3; pick 3 @1; pick 3 @2; outs 4 5 0",
		"ins; const 1; const 1; put 1 @1 : 3; put 0 @1 : 3; outs 3", "ins; const 1; const 1; put 0 @1 : 3; put 0 @1 : 3; outs 2")
}

// P8: constants are one when their floats are the same.
func TestPassCommonConstants(t *testing.T) {
	checkStays(t, impl.PassCommon,
		"ins; const 0; const -0; div 0 1; div 1 0; outs 0 1 2 3",
		"ins; const 1; const 0x3ff0000000000001; const 0x3fefffffffffffff; const -1; const 5e-324; const 0; outs 1 2 3 4 5",
		"ins; const Inf; const -Inf; const NaN; outs 0 1 2")
	checkPass(t, impl.PassCommon,
		"ins; const -0; const 0; const -0; const 0; outs 3 2", "ins; const -0; const 0; const -0; const 0; outs 1 0",
		"ins; const NaN; const 0xfff8000000000001 ; const 0x7ff0000000000001; neg 2; neg 1; outs 1 2 4", "ins; const NaN; const NaN; const NaN; neg 0; neg 0; outs 0 0 3",
		"ins; const Inf : 7; const Inf : 7; const Inf : 8; outs 1 2", "ins; const Inf : 7; const Inf : 7; const Inf : 8; outs 0 2")
}

// P8: PassNeg, for rows of OpNeg of each length, and for one in the middle that others use.
func TestPassNeg(t *testing.T) {
	checkPass(t, impl.PassNeg,
		"ins 1; input 0; neg 0; neg 1; outs 2", "ins 1; input 0; neg 0; neg 1; outs 0",
		"ins 1; input 0; neg 0; neg 1; neg 2; outs 3", "ins 1; input 0; neg 0; neg 1; neg 0; outs 3",
		"ins 1; input 0; neg 0; neg 1; neg 2; neg 3; outs 4", "ins 1; input 0; neg 0; neg 1; neg 0; neg 3; outs 0",
		"ins 1; input 0; neg 0; neg 1; neg 2; neg 3; neg 4; outs 5 4 3 2 1 0", "ins 1; input 0; neg 0; neg 1; neg 0; neg 3; neg 0; outs 5 0 3 0 1 0",
		"ins 3; input 0 : 3; neg 0 : 3; exp 1 : 3; neg 1 : 3; mul 3 1 : 3; sel 3 4 3 : 3; outs 5 3 2", "ins 3; input 0 : 3; neg 0 : 3; exp 1 : 3; neg 1 : 3; mul 0 1 : 3; sel 0 4 0 : 3; outs 5 0 2",
		"ins; const -0; neg 0; neg 1; neg 1; outs 2 3", "ins; const -0; neg 0; neg 1; neg 1; outs 0 0",
		// the second row begins where the first was found equal
		"ins 1; input 0; neg 0; neg 1; exp 2; neg 3; neg 4; sub 5 2; outs 6 5", "ins 1; input 0; neg 0; neg 1; exp 0; neg 3; neg 4; sub 3 0; outs 6 3",
		// an input's number and a place are not replaced
		"ins 3 3 3; input 0 : 3; neg 0 : 3; neg 1 : 3; input 2 : 3; pick 2 @2; put 4 @2 : 3; outs 5 3 4", "ins 3 3 3; input 0 : 3; neg 0 : 3; neg 1 : 3; input 2 : 3; pick 0 @2; put 4 @2 : 3; outs 5 3 4")
	checkStays(t, impl.PassNeg,
		"ins 1; input 0; neg 0; exp 1; neg 2; outs 3",
		"ins 1; input 0; const 0; sub 1 0; sub 1 2; outs 3",
		"ins 1; input 0; neg 0; neg 0; add 1 2; outs 3 2")
}

// P8: rows of as many OpNeg as a graph holds.
func TestPassNegInLongRows(t *testing.T) {
	for _, n := range []int{impl.MaxVals - 1, impl.MaxVals} {
		g := impl.Graph{Ins: []int{25}, Vals: []impl.Val{val(impl.OpInput, 25, 0, 0, 0)}, Outs: []int{n - 1, n - 2, 2, 1}}
		for i := 1; i < n; i++ {
			g.Vals = append(g.Vals, val(impl.OpNeg, 25, i-1, 0, 0))
		}
		want := copyGraph(g)
		for i := 3; i < n; i += 2 {
			want.Vals[i].A = 0
		}
		for k, o := range want.Outs {
			if o%2 == 0 {
				want.Outs[k] = 0
			}
		}
		got, code := passed(t, &source{81}, g, impl.PassNeg)
		if code != impl.CodeOK || !sameMeaning(got, want) {
			t.Errorf("%d values: code %d, %.300s .. %v", n, code, told(got), got.Outs)
		}
	}
}
