package tests

import (
	"math"
	"slices"
	"testing"

	"loop.example/s08086/impl"
)

// checkVerify takes codes as toldCode tells them, all of which are taken or all refused.
func checkVerify(t *testing.T, want bool, codes ...string) {
	t.Helper()
	for _, text := range codes {
		if got := verified(t, readCode(t, text)); got != want {
			t.Errorf("%s: %v", text, got)
		}
	}
}

// checkChanged looks whether a code is taken after a change.
func checkChanged(t *testing.T, want bool, what string, c impl.Code, change func(c *impl.Code)) {
	t.Helper()
	c = copyCode(c)
	change(&c)
	if got := verified(t, c); got != want {
		t.Errorf("%s: %v, %.300s", what, got, toldCode(c))
	}
}

// P13: codes that no plan makes and that are taken all the same.
func TestVerifyTakes(t *testing.T) {
	checkVerify(t, true,
		"ins; outs; peak 0",
		"ins; outs; peak 1",
		"ins; outs; peak 50000",
		"ins 1 1000; outs; peak 0",
		// not at the first free cell, at the last cell
		"ins; const 1 > 5+2; outs 5+2; peak 9",
		"ins; const 1 > 49999+1; outs 49999+1; peak 50000",
		"ins; const 1 > 49000+1000; outs 49000+1000; peak 50000",
		// written over
		"ins; const 1 > 0+1; const 2 > 0+1; outs 0+1; peak 1",
		"ins; const 1 > 0+3; const 2 > 1+1; neg 0+3 > 3+3; outs 0+6; peak 6",
		"ins 2; input 0 > 0+2; input 0 > 1+2; outs 0+3; peak 3",
		// what was an output is written over
		"ins; const 1 > 0+2; neg 0+2 > 2+2; const 3 > 2+1; outs 2+2 0+2; peak 4",
		// an operand that several steps wrote
		"ins; const 1 > 0+1; const 2 > 1+1; sum 0+2 > 2+1; outs 2+1; peak 3",
		"ins; const 1 > 2+1; const 2 > 0+1; const 3 > 1+1; neg 0+3 > 3+3; outs 3+3; peak 6",
		// a part of what a step wrote
		"ins; const 1 > 0+5; sum 1+3 > 0+1; sum 0+4 > 4+1; outs 0+5; peak 5",
		"ins; const 1 > 0+5; fill 4+1 > 0+4; put 0+1 @3 > 1+4; pick 1+4 @3 > 0+1; outs 0+5; peak 5",
		// operands with the same cells, and such as overlap
		"ins; const 1 > 0+2; add 0+2 0+2 > 2+2; outs 2+2; peak 4",
		"ins; const 1 > 0+3; sub 0+2 1+2 > 3+2; sel 0+1 1+1 0+1 > 2+1; outs 0+5; peak 5",
		// what is written touches an operand on each side
		"ins; const 1 > 0+6; add 0+2 4+2 > 2+2; outs 2+2; peak 6",
		"ins; const 1 > 0+6; sel 1+1 3+1 5+1 > 4+1; sel 0+1 2+1 4+1 > 1+1; outs 0+6; peak 6",
		"ins; const 1 > 0+4; sum 0+3 > 3+1; sum 1+3 > 0+1; outs 0+4; peak 4",
		// outputs that overlap, that stand twice, that several steps wrote
		"ins; const 1 > 0+4; outs 0+4 1+2 3+1 0+4 0+1 2+2; peak 4",
		"ins; const 1 > 0+2; const 2 > 2+2; outs 1+2 0+4; peak 4",
	)
}

// P13: cells that are not there, not written, or both taken and written.
func TestVerifyRefuses(t *testing.T) {
	checkVerify(t, false,
		// not in the arena
		"ins; const 1 > 0+1; outs; peak 0",
		"ins; const 1 > 0+3; outs; peak 2",
		"ins; const 1 > 3+1; outs; peak 3",
		"ins; const 1 > -1+1; outs; peak 3",
		"ins; const 1 > -1+2; outs; peak 3",
		"ins; const 1 > 49001+1000; outs; peak 50000",
		"ins 2; input 0 > 2+2; outs; peak 3",
		"ins; const 1 > 0+2; sum 1+2 > 0+1; outs; peak 2",
		"ins; const 1 > 0+2; sum -1+2 > 1+1; outs; peak 2",
		"ins; const 1 > 0+2; neg 2+1 > 0+1; outs; peak 2",
		"ins; const 1 > 0+2; add 0+1 2+1 > 1+1; outs; peak 2",
		"ins; const 1 > 0+2; add 0+1 -1+1 > 1+1; outs; peak 2",
		"ins; const 1 > 0+2; sel 0+1 0+1 2+1 > 1+1; outs; peak 2",
		"ins; const 1 > 0+2; sel 0+1 0+1 -1+1 > 1+1; outs; peak 2",
		"ins; const 1 > 0+2; outs 2+1; peak 2",
		"ins; const 1 > 0+2; outs 0+3; peak 2",
		"ins; const 1 > 0+2; outs 1+2; peak 2",
		"ins; const 1 > 0+2; outs -1+1; peak 2",
		"ins; const 1 > 0+2; outs -1+2; peak 2",
		"ins; outs 0+1; peak 0",
		// never written, written in part, written later
		"ins; neg 0+1 > 1+1; outs; peak 2",
		"ins; const 1 > 0+2; sum 0+3 > 3+1; outs; peak 4",
		"ins; const 1 > 1+2; sum 0+3 > 3+1; outs; peak 4",
		"ins; const 1 > 0+1; const 2 > 2+1; sum 0+3 > 3+1; outs; peak 4",
		"ins; const 1 > 0+1; add 0+1 1+1 > 2+1; const 2 > 1+1; outs; peak 3",
		"ins; const 1 > 0+1; add 1+1 0+1 > 2+1; const 2 > 1+1; outs; peak 3",
		"ins; const 1 > 0+1; sel 0+1 0+1 1+1 > 2+1; const 2 > 1+1; outs; peak 3",
		"ins; const 1 > 0+2; sel 0+2 0+2 1+2 > 3+2; outs; peak 5",
		"ins; outs 0+1; peak 1",
		"ins; const 1 > 0+1; outs 1+1; peak 2",
		"ins; const 1 > 1+1; outs 0+2; peak 2",
		"ins; const 1 > 0+1; outs 0+1 0+2; peak 2",
		"ins; const 1 > 0+1; const 1 > 2+1; outs 0+3; peak 3",
		// written where an operand lies: on all of it, on its first cell, on its last, within, around
		"ins; const 1 > 0+4; neg 0+4 > 0+4; outs; peak 4",
		"ins; const 1 > 0+4; neg 1+2 > 0+2; outs; peak 4",
		"ins; const 1 > 0+4; neg 1+2 > 2+2; outs; peak 4",
		"ins; const 1 > 0+4; sum 0+3 > 1+1; outs; peak 4",
		"ins; const 1 > 0+4; sum 0+3 > 0+1; outs; peak 4",
		"ins; const 1 > 0+4; sum 0+3 > 2+1; outs; peak 4",
		"ins; const 1 > 0+4; fill 1+1 > 0+3; outs; peak 4",
		"ins; const 1 > 0+4; fill 1+1 > 1+3; outs; peak 4",
		"ins; const 1 > 0+4; fill 3+1 > 1+3; outs; peak 4",
		"ins; const 1 > 0+4; put 1+1 @0 > 0+3; outs; peak 4",
		"ins; const 1 > 0+4; pick 0+4 @0 > 3+1; outs; peak 4",
		"ins; const 1 > 0+4; pick 0+4 @3 > 0+1; outs; peak 4",
		"ins; const 1 > 0+4; add 0+1 1+1 > 1+1; outs; peak 4",
		"ins; const 1 > 0+4; add 0+2 2+2 > 1+2; outs; peak 4",
		"ins; const 1 > 0+6; sel 0+2 2+2 4+2 > 5+2; outs; peak 7",
		"ins; const 1 > 0+6; sel 0+1 1+1 2+1 > 2+1; outs; peak 6",
		"ins; const 1 > 0+1; exp 0+1 > 0+1; outs; peak 1",
		// a fault in the last of many steps, and behind good outputs
		"ins; const 1 > 0+1; neg 0+1 > 1+1; neg 1+1 > 0+1; neg 0+1 > 0+1; outs 0+1; peak 2",
	)
}

// eachOp answers, for every Op, a code whose last step has it, and that is taken.
func eachOp(t *testing.T) []impl.Code {
	t.Helper()
	last := []string{"input 1 > 4+3", "const 7 > 4+3", "add 0+3 1+3 > 4+3", "sub 0+3 1+3 > 4+3", "mul 0+3 1+3 > 4+3", "div 0+3 1+3 > 4+3", "neg 1+3 > 4+3",
		"max 0+3 1+3 > 4+3", "sel 0+3 1+3 1+3 > 4+3", "sum 1+3 > 4+1", "fill 1+1 > 4+3", "pick 1+3 @1 > 4+1", "put 1+1 @1 > 4+3", "exp 1+3 > 4+3"}
	out := []impl.Code{}
	for op, step := range last {
		c := readCode(t, "ins 2 3; const 1 > 0+4; "+step+"; outs 0+4 4+1; peak 7")
		if c.Steps[1].Op != op || !verified(t, c) {
			t.Fatalf("%s", toldCode(c))
		}
		out = append(out, c)
	}
	return out
}

func stepFields(s *impl.Step) []*int {
	return []*int{&s.Op, &s.Len, &s.N, &s.Dst, &s.A, &s.B, &s.C}
}

// P13: numbers far off, among them such as would make a sum with a length wrap round, in every place of a code.
func TestVerifyFarNumbers(t *testing.T) {
	far := append(farInts(), math.MaxInt-2, math.MaxInt-3, math.MaxInt-999, math.MaxInt-1000, math.MinInt+2, math.MinInt+1000, 1<<32, 1<<32+1, -1<<32, 1<<63-50000)
	for op, c := range eachOp(t) {
		for _, n := range far {
			for k := range stepFields(&c.Steps[1]) {
				checkChanged(t, false, ruleOf(op).name, c, func(c *impl.Code) { *stepFields(&c.Steps[1])[k] = n })
			}
			checkChanged(t, false, "input", c, func(c *impl.Code) { c.Ins[0] = n })
			checkChanged(t, false, "peak", c, func(c *impl.Code) { c.Peak = n })
			checkChanged(t, false, "output's offset", c, func(c *impl.Code) { c.Outs[0].Off = n })
			checkChanged(t, false, "output's length", c, func(c *impl.Code) { c.Outs[1].Len = n })
			for _, m := range far {
				checkChanged(t, false, "output", c, func(c *impl.Code) { c.Outs[0] = impl.Span{Off: n, Len: m} })
				checkChanged(t, false, "length and place", c, func(c *impl.Code) { c.Steps[1].Len, c.Steps[1].N, c.Steps[1].Dst = m, m, n })
			}
		}
	}
}

// P13: every field of the last step, a little to both sides of where it is.
func TestVerifyNearNumbers(t *testing.T) {
	taken := map[int]int{}
	for op, c := range eachOp(t) {
		for k := range stepFields(&c.Steps[1]) {
			for d := -5; d <= 5; d++ {
				for second := range stepFields(&c.Steps[1]) {
					changed := copyCode(c)
					*stepFields(&changed.Steps[1])[k] += d
					*stepFields(&changed.Steps[1])[second] += d / 2
					if verified(t, changed) {
						taken[op]++
					}
				}
			}
		}
		if taken[op] < 20 {
			t.Errorf("%s: %d were taken: not much of a test", ruleOf(op).name, taken[op])
		}
	}
}

// P13: fields that have no meaning for the Op are 0, and K is ignored but for OpConst.
func TestVerifySpareFields(t *testing.T) {
	spare := []string{"NBC", "NABC", "C", "C", "C", "C", "BC", "C", "", "BC", "BC", "B", "B", "BC"}
	for op, c := range eachOp(t) {
		for _, name := range spare[op] {
			for _, n := range []int{-1, 1} {
				checkChanged(t, false, ruleOf(op).name+" "+string(name), c, func(c *impl.Code) {
					s := &c.Steps[1]
					*map[rune]*int{'N': &s.N, 'A': &s.A, 'B': &s.B, 'C': &s.C}[name] += n
				})
			}
		}
		for _, f := range edgeFloats() {
			checkChanged(t, true, ruleOf(op).name+" K", c, func(c *impl.Code) { c.Steps[1].K = f })
		}
	}
}

// P13: how many inputs, steps, outputs and cells a code may have, and how long they may be.
func TestVerifyLimits(t *testing.T) {
	base := readCode(t, "ins; const 1 > 0+1000; const 2 > 1000+1000; outs; peak 3000")
	lengths := map[int]bool{-1: false, 0: false, 1: true, 2: true, 999: true, 1000: true, 1001: false}
	for n, want := range lengths {
		checkChanged(t, want, "input's length", base, func(c *impl.Code) { c.Ins = []int{5, n, 5} })
		checkChanged(t, want, "output's length", base, func(c *impl.Code) { c.Outs = []impl.Span{{Off: 7, Len: n}} })
		checkChanged(t, want, "length of the last output", base, func(c *impl.Code) { c.Outs = []impl.Span{{Off: 0, Len: 9}, {Off: 7, Len: n}} })
		for _, op := range []int{impl.OpSum, impl.OpPick} {
			checkChanged(t, want, "N", base, func(c *impl.Code) { c.Steps = append(c.Steps, impl.Step{Op: op, Len: 1, N: n, Dst: 2000}) })
			checkChanged(t, want, "N", base, func(c *impl.Code) { c.Steps = append(c.Steps, impl.Step{Op: op, Len: 1, N: n, A: 999, Dst: 2000}) })
			checkChanged(t, false, "Len beside N", base, func(c *impl.Code) { c.Steps = append(c.Steps, impl.Step{Op: op, Len: 2, N: n, Dst: 2000}) })
		}
		checkChanged(t, want, "Len", base, func(c *impl.Code) { c.Steps = append(c.Steps, impl.Step{Op: impl.OpConst, Len: n, Dst: 5}) })
		checkChanged(t, want, "Len", base, func(c *impl.Code) { c.Steps = append(c.Steps, impl.Step{Op: impl.OpFill, Len: n, N: 1, Dst: 100}) })
		checkChanged(t, want, "Len", base, func(c *impl.Code) {
			c.Steps = append(c.Steps, impl.Step{Op: impl.OpAdd, Len: n, N: n, B: 3, Dst: 1995})
		})
		checkChanged(t, want, "Len of an input", base, func(c *impl.Code) {
			c.Ins = []int{n}
			c.Steps = append(c.Steps, impl.Step{Op: impl.OpInput, Len: n})
		})
	}
	for n, want := range map[int]bool{0: true, 1: true, impl.MaxIns: true, impl.MaxIns + 1: false, 100: false} {
		checkChanged(t, want, "inputs", base, func(c *impl.Code) { c.Ins = slices.Repeat([]int{1}, n) })
	}
	for n, want := range map[int]bool{0: true, 1: true, impl.MaxOuts: true, impl.MaxOuts + 1: false, 1000: false} {
		checkChanged(t, want, "outputs", base, func(c *impl.Code) { c.Outs = slices.Repeat([]impl.Span{{Off: 3, Len: 4}}, n) })
	}
	for n, want := range map[int]bool{2: true, impl.MaxVals: true, impl.MaxVals + 1: false, 5000: false} {
		checkChanged(t, want, "steps", base, func(c *impl.Code) { c.Steps = slices.Repeat(c.Steps, n/2+1)[:n] })
	}
	for n, want := range map[int]bool{-1: false, 0: false, 1999: false, 2000: true, 49999: true, impl.MaxCells: true, impl.MaxCells + 1: false} {
		checkChanged(t, want, "peak", base, func(c *impl.Code) { c.Peak = n })
	}
	for n, want := range map[int]bool{-1: false, 0: true, 1: true, impl.MaxCells: true, impl.MaxCells + 1: false} {
		checkChanged(t, want, "peak without steps", impl.Code{}, func(c *impl.Code) { c.Peak = n })
	}
	// as many steps as there may be, each as long as it may be
	checkChanged(t, true, "long steps", base, func(c *impl.Code) {
		for i := 2; i < impl.MaxVals; i++ {
			c.Steps = append(c.Steps, impl.Step{Op: impl.OpSel, Len: 1000, N: 1000, A: 0, B: 1000, C: 500, Dst: 2000})
		}
		c.Outs = []impl.Span{{Off: 2000, Len: 1000}}
	})
}

// P13: inputs' numbers and lengths, and places.
func TestVerifyNumbersAndPlaces(t *testing.T) {
	checkVerify(t, true,
		"ins 1 2 3; input 0 > 0+1; input 1 > 0+2; input 2 > 0+3; outs 0+3; peak 3",
		"ins; const 1 > 0+3; pick 0+3 @0 > 3+1; pick 0+3 @2 > 3+1; outs 3+1; peak 4",
		"ins; const 1 > 0+1; put 0+1 @0 > 1+3; put 0+1 @2 > 1+3; put 0+1 @0 > 1+1; pick 0+1 @0 > 1+1; outs 1+3; peak 4",
	)
	checkVerify(t, false,
		"ins; input 0 > 0+1; outs; peak 3",
		"ins 1 2 3; input -1 > 0+1; outs; peak 3",
		"ins 1 2 3; input 3 > 0+3; outs; peak 3",
		"ins 1 2 3; input 1 > 0+1; outs; peak 3",
		"ins 1 2 3; input 1 > 0+3; outs; peak 3",
		"ins; const 1 > 0+3; pick 0+3 @-1 > 3+1; outs; peak 4",
		"ins; const 1 > 0+3; pick 0+3 @3 > 3+1; outs; peak 4",
		"ins; const 1 > 0+3; pick 0+2 @2 > 3+1; outs; peak 4",
		"ins; const 1 > 0+3; pick 0+3 @0 > 3+2; outs; peak 5",
		"ins; const 1 > 0+3; sum 0+3 > 3+2; outs; peak 5",
		"ins; const 1 > 0+3; put 0+1 @-1 > 3+3; outs; peak 6",
		"ins; const 1 > 0+3; put 0+1 @3 > 3+3; outs; peak 6",
		"ins; const 1 > 0+3; put 0+1 @1 > 3+1; outs; peak 6",
		"ins; const 1 > 0+3; put 0+2 @0 > 3+2; outs; peak 6",
		"ins; const 1 > 0+3; fill 0+2 > 3+2; outs; peak 6",
		"ins; const 1 > 0+3; fill 0+3 > 3+1; outs; peak 6",
		"ins; const 1 > 0+3; neg 0+2 > 3+3; outs; peak 6",
		"ins; const 1 > 0+3; neg 0+3 > 3+2; outs; peak 6",
		"ins; const 1 > 0+3; exp 0+2 > 3+3; outs; peak 6",
		"ins; const 1 > 0+3; add 0+2 0+3 > 3+3; outs; peak 6",
		"ins; const 1 > 0+3; max 0+3 0+2 > 3+2; outs; peak 6",
		"ins; const 1 > 0+3; sel 0+2 0+3 0+3 > 3+3; outs; peak 6",
	)
}

// P13: every step of small numbers, behind cells that were written in three ways.
func TestVerifyEverySmallStep(t *testing.T) {
	starts := []string{
		"ins 1 2; const 1 > 0+2; outs; peak 3",
		"ins 2; const 1 > 0+1; const 2 > 2+1; outs; peak 3",
		"ins 2 1; const 1 > 1+1; const 2 > 2+1; outs; peak 3",
	}
	counts := map[bool]int{}
	for _, start := range starts {
		c := readCode(t, start)
		c.Steps = append(c.Steps, impl.Step{})
		s := &c.Steps[len(c.Steps)-1]
		fields := stepFields(s)
		first := []int{-1, 0, -1, -1, -1, -1, -1}
		after := []int{15, 4, 4, 4, 4, 4, 4}
		for k, f := range fields {
			*f = first[k]
		}
		for k := 0; k < len(fields); {
			got, want := impl.Verify(c), wantVerify(c)
			if got != want {
				t.Fatalf("%v, want %v: %+v", got, want, c)
			}
			counts[got]++
			for k = 0; k < len(fields); k++ {
				if *fields[k]++; *fields[k] < after[k] {
					break
				}
				*fields[k] = first[k]
			}
		}
	}
	if counts[true] < 80 || counts[false] < 500000 {
		t.Errorf("%v: not much of a test", counts)
	}
}
