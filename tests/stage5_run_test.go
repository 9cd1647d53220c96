package tests

import (
	"math"
	"slices"
	"testing"

	"loop.example/s08086/impl"
)

// runCase is a code as toldCode tells it, its inputs, and what it answers.
type runCase struct {
	code   string
	inputs [][]float64
	want   [][]float64
}

func checkRuns(t *testing.T, cases []runCase) {
	t.Helper()
	for _, c := range cases {
		code := readCode(t, c.code)
		outs, steps, number := ran(t, code, c.inputs)
		if number != impl.CodeOK || steps != len(code.Steps) || !sameLists(outs, c.want) {
			t.Errorf("%s with %v: code %d, %d steps, %v, want %v", c.code, c.inputs, number, steps, outs, c.want)
		}
	}
}

// P13: codes with no steps and with no outputs.
func TestRunCodeOfNothing(t *testing.T) {
	checkRuns(t, []runCase{
		{"ins; outs; peak 0", nil, nil},
		{"ins; outs; peak 50000", [][]float64{}, nil},
		{"ins 2 1; outs; peak 0", [][]float64{{1, 2}, {3}}, nil},
		{"ins 2; input 0 > 0+2; neg 0+2 > 2+2; outs; peak 4", [][]float64{{1, 2}}, nil},
	})
}

// P13: what each Op writes, and where.
func TestRunCodeOfEachOp(t *testing.T) {
	inf, nan := math.Inf(1), math.NaN()
	checkRuns(t, []runCase{
		{"ins 2 3; input 1 > 0+3; input 0 > 3+2; outs 0+5; peak 5", [][]float64{{1, 2}, {3, 4, 5}}, [][]float64{{3, 4, 5, 1, 2}}},
		{"ins; const -0 > 0+2; const NaN > 2+1; outs 0+3; peak 3", nil, [][]float64{{minusZero(), minusZero(), nan}}},
		{"ins 2 2; input 0 > 0+2; input 1 > 2+2; add 0+2 2+2 > 4+2; sub 0+2 2+2 > 6+2; mul 0+2 2+2 > 8+2; div 0+2 2+2 > 10+2; outs 4+8; peak 12",
			[][]float64{{1, inf}, {4, inf}}, [][]float64{{5, inf, -3, nan, 4, inf, 0.25, nan}}},
		{"ins 4; input 0 > 0+4; neg 0+4 > 4+4; outs 4+4; peak 8", [][]float64{{0, minusZero(), inf, nan}}, [][]float64{{minusZero(), 0, -inf, nan}}},
		{"ins 4 4; input 0 > 0+4; input 1 > 4+4; max 0+4 4+4 > 8+4; max 4+4 0+4 > 12+4; outs 8+4 12+4; peak 16",
			[][]float64{{1, nan, 0, 2}, {2, 1, minusZero(), nan}}, [][]float64{{2, 1, minusZero(), nan}, {2, nan, 0, 2}}},
		{"ins 5; input 0 > 0+5; const 1 > 5+5; const 2 > 10+5; sel 0+5 5+5 10+5 > 15+5; outs 15+5; peak 20",
			[][]float64{{1, 0, minusZero(), nan, -1}}, [][]float64{{1, 2, 2, 2, 2}}},
		{"ins 3; input 0 > 0+3; sum 0+3 > 3+1; sum 1+1 > 4+1; outs 3+2; peak 5", [][]float64{{1e16, 1, -1e16}}, [][]float64{{0, 1}}},
		{"ins 2; input 0 > 0+2; sum 0+2 > 2+1; outs 2+1; peak 3", [][]float64{{minusZero(), minusZero()}}, [][]float64{{minusZero()}}},
		{"ins 3; input 0 > 0+3; fill 1+1 > 3+2; pick 0+3 @2 > 5+1; put 0+1 @1 > 6+3; outs 3+2 5+1 6+3; peak 9",
			[][]float64{{7, 8, 9}}, [][]float64{{8, 8}, {9}, {0, 7, 0}}},
		{"ins 3; input 0 > 0+3; exp 0+3 > 3+3; outs 3+3; peak 6", [][]float64{{0, 2000, -2000}}, [][]float64{{1, inf, 0}}},
	})
}

// P13: codes that no plan makes; the steps are carried out one after another, on the cells as they are by then.
func TestRunCodeThatNoPlanMakes(t *testing.T) {
	checkRuns(t, []runCase{
		// what was written over, in part and whole
		{"ins; const 1 > 0+3; const 2 > 1+1; neg 0+3 > 3+3; outs 0+6; peak 6", nil, [][]float64{{1, 2, 1, -1, -2, -1}}},
		{"ins 2; input 0 > 0+2; input 0 > 1+2; outs 0+3 1+2; peak 3", [][]float64{{5, 6}}, [][]float64{{5, 5, 6}, {5, 6}}},
		// one step's cells, then the same cells for another: each takes what was there at its time
		{"ins 1; input 0 > 0+1; neg 0+1 > 1+1; const 9 > 0+1; neg 0+1 > 2+1; outs 0+1 1+1 2+1; peak 3", [][]float64{{4}}, [][]float64{{9}, {-4}, {-9}}},
		// what was an output is written over before the end
		{"ins; const 1 > 0+2; neg 0+2 > 2+2; const 3 > 2+1; outs 2+2 0+2; peak 4", nil, [][]float64{{3, -1}, {1, 1}}},
		// operands that several steps wrote, and such as overlap
		{"ins; const 1 > 0+1; const 2 > 1+1; const 4 > 2+1; sum 0+3 > 3+1; sub 0+2 1+2 > 4+2; outs 3+3; peak 6", nil, [][]float64{{7, -1, -2}}},
		{"ins 3; input 0 > 0+3; add 0+1 2+1 > 1+1; sel 0+1 1+1 2+1 > 3+1; outs 0+4; peak 4", [][]float64{{1, 5, 3}}, [][]float64{{1, 4, 3, 4}}},
		// outputs that overlap, an arena that is greater than it need be
		{"ins 4; input 0 > 7+4; outs 7+4 8+2 10+1 7+4 8+3; peak 99", [][]float64{{1, 2, 3, 4}}, [][]float64{{1, 2, 3, 4}, {2, 3}, {4}, {1, 2, 3, 4}, {2, 3, 4}}},
		{"ins; const 5 > 49000+1000; sum 49000+1000 > 0+1; outs 0+1 49999+1; peak 50000", nil, [][]float64{{5000}, {5}}},
		// the zeros of a put are written, they are not what lay there before
		{"ins; const 5 > 0+4; const 6 > 4+1; put 4+1 @2 > 0+4; outs 0+4; peak 5", nil, [][]float64{{0, 0, 6, 0}}},
		// an input that no step takes must fit all the same
		{"ins 1 2; input 1 > 0+2; outs 0+2; peak 2", [][]float64{{9}, {1, 2}}, [][]float64{{1, 2}}},
	})
}

// P13: a code that is refused is told ahead of inputs that do not fit; with neither code is there an output or a step.
func TestRunCodeFaults(t *testing.T) {
	check := func(text string, inputs [][]float64, want int) {
		t.Helper()
		if outs, steps, code := ran(t, readCode(t, text), inputs); code != want || code != impl.CodeOK && (steps != 0 || len(outs) != 0) {
			t.Errorf("%s with %v: code %d, %d steps, %v, want %d", text, inputs, code, steps, outs, want)
		}
	}
	good := "ins 2 1; input 0 > 0+2; input 1 > 2+1; outs 0+3; peak 3"
	bad := "ins 2 1; input 0 > 0+2; input 1 > 2+1; outs 0+4; peak 3"
	shapes := [][][]float64{nil, {}, {{1, 2}}, {{1}, {1, 2}}, {{1, 2}, {}}, {{1, 2}, nil}, {nil, nil}, {{1, 2, 3}, {1}}, {{1}, {1}}, {{1, 2}, {1, 2}}, {{1, 2}, {1}, {}}, {{1, 2}, {1}, {1}}, {{1, 2, 1}}}
	for _, inputs := range shapes {
		check(good, inputs, impl.CodeShape)
		check(bad, inputs, impl.CodeBad)
	}
	check(good, [][]float64{{1, 2}, {3}}, impl.CodeOK)
	check(bad, [][]float64{{1, 2}, {3}}, impl.CodeBad)
	// codes without inputs take none
	check("ins; outs; peak 0", [][]float64{{}}, impl.CodeShape)
	check("ins; outs; peak 0", [][]float64{{1}}, impl.CodeShape)
	check("ins; const 1 > 0+1; outs 0+1; peak 1", [][]float64{nil}, impl.CodeShape)
	check("ins; const 1 > 0+1; outs 0+1; peak 0", [][]float64{nil}, impl.CodeBad)
	// inputs that no step takes
	check("ins 3; outs; peak 0", [][]float64{{1, 2}}, impl.CodeShape)
	check("ins 3; outs; peak 0", nil, impl.CodeShape)
	check("ins 3; outs; peak -1", nil, impl.CodeBad)
	check("ins 0; outs; peak 0", [][]float64{{}}, impl.CodeBad)
	check("ins 1001; outs; peak 0", [][]float64{make([]float64, 1001)}, impl.CodeBad)
	check("ins 1000; outs; peak 0", [][]float64{make([]float64, 1000)}, impl.CodeOK)
	check("ins 1000; outs; peak 0", [][]float64{make([]float64, 1001)}, impl.CodeShape)
}

// P13: codes as great as they may be end, and each step is carried out.
func TestRunCodeAtTheLimits(t *testing.T) {
	c := impl.Code{Ins: slices.Repeat([]int{impl.MaxLen}, impl.MaxIns), Peak: impl.MaxCells}
	inputs := [][]float64{}
	for i := range impl.MaxIns {
		c.Steps = append(c.Steps, impl.Step{Op: impl.OpInput, Len: impl.MaxLen, Dst: i * impl.MaxLen, A: i})
		inputs = append(inputs, someFloats(&source{120}, impl.MaxLen))
	}
	for i := len(c.Steps); i < impl.MaxVals; i++ {
		op := []int{impl.OpAdd, impl.OpSel, impl.OpExp, impl.OpDiv}[i%4]
		s := impl.Step{Op: op, Len: impl.MaxLen, N: impl.MaxLen, Dst: (20 + i%30) * impl.MaxLen, A: i % 19 * impl.MaxLen}
		if op != impl.OpExp {
			s.B = 7 * i % 18500
		}
		if op == impl.OpSel {
			s.C = 11 * i % 18500
		}
		c.Steps = append(c.Steps, s)
	}
	for i := range impl.MaxOuts {
		c.Outs = append(c.Outs, impl.Span{Off: i * impl.MaxLen, Len: impl.MaxLen})
	}
	if _, steps, code := ran(t, c, inputs); code != impl.CodeOK || steps != impl.MaxVals {
		t.Errorf("code %d, %d steps", code, steps)
	}
}
