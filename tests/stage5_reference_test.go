package tests

import (
	"slices"

	"loop.example/s08086/impl"
)

// wantPlan is Plan by the text of 5.1, cell by cell: owner says which value a cell belongs to.
func wantPlan(g impl.Graph, budget int) (impl.Code, int) {
	if !wantValid(g) {
		return impl.Code{}, impl.CodeBad
	}
	owner := make([]int, elementsIn(g))
	for i := range owner {
		owner[i] = -1
	}
	c := impl.Code{Ins: slices.Clone(g.Ins)}
	place, last := []int{}, []int{}
	for i, v := range g.Vals {
		at := firstFree(owner, v.Len)
		place, last = append(place, at), append(last, lastNeed(g, i))
		for k := at; k < at+v.Len; k++ {
			owner[k] = i
			c.Peak = max(c.Peak, k+1)
		}
		for o := range place {
			if last[o] == i {
				for k := place[o]; k < place[o]+g.Vals[o].Len; k++ {
					owner[k] = -1
				}
			}
		}
		c.Steps = append(c.Steps, wantStep(g, i, place))
	}
	for _, o := range g.Outs {
		c.Outs = append(c.Outs, impl.Span{Off: place[o], Len: g.Vals[o].Len})
	}
	if c.Peak > budget {
		return impl.Code{}, impl.CodeBudget
	}
	return c, impl.CodeOK
}

// firstFree answers the smallest offset from which on n cells belong to no value.
func firstFree(owner []int, n int) int {
	for at := 0; ; at++ {
		if !slices.ContainsFunc(owner[at:at+n], func(o int) bool { return o >= 0 }) {
			return at
		}
	}
}

// lastNeed answers the last user of the value o, o itself if there is none, or -1 for an output.
func lastNeed(g impl.Graph, o int) int {
	if slices.Contains(g.Outs, o) {
		return -1
	}
	for i := len(g.Vals) - 1; i > o; i-- {
		if slices.Contains(fieldsThatAreOperands(g.Vals[i]), o) {
			return i
		}
	}
	return o
}

func wantStep(g impl.Graph, i int, place []int) impl.Step {
	v := g.Vals[i]
	s := impl.Step{Op: v.Op, Len: v.Len, Dst: place[i]}
	switch ruleOf(v.Op).operands {
	case 3:
		s.A, s.B, s.C = place[v.A], place[v.B], place[v.C]
	case 2:
		s.A, s.B = place[v.A], place[v.B]
	case 1:
		s.A = place[v.A]
	}
	if ruleOf(v.Op).operands > 0 {
		s.N = g.Vals[v.A].Len
	}
	switch v.Op {
	case impl.OpInput:
		s.A = v.A
	case impl.OpConst:
		s.K = v.K
	case impl.OpPick, impl.OpPut:
		s.C = v.C
	}
	return s
}

func wantLength(n int) bool {
	return n >= 1 && n <= 1000
}

// spanIn answers whether the cells of a span lie within an arena.
func spanIn(off, n, peak int) bool {
	return off >= 0 && off <= peak && off+n <= peak
}

// spansTaken answers the spans of a step's operands.
func spansTaken(s impl.Step) []impl.Span {
	all := []impl.Span{{Off: s.A, Len: s.N}, {Off: s.B, Len: s.Len}, {Off: s.C, Len: s.Len}}
	return all[:ruleOf(s.Op).operands]
}

// wantFields is what 5.2 says of the numbers of a step, wherever its cells lie.
func wantFields(s impl.Step, ins []int) bool {
	if s.Op < 0 || s.Op > 13 || !wantLength(s.Len) {
		return false
	}
	switch s.Op {
	case impl.OpInput:
		return s.N == 0 && s.A >= 0 && s.A < len(ins) && ins[s.A] == s.Len && s.B == 0 && s.C == 0
	case impl.OpConst:
		return s.N == 0 && s.A == 0 && s.B == 0 && s.C == 0
	case impl.OpAdd, impl.OpSub, impl.OpMul, impl.OpDiv, impl.OpMax:
		return s.N == s.Len && s.C == 0
	case impl.OpNeg, impl.OpExp:
		return s.N == s.Len && s.B == 0 && s.C == 0
	case impl.OpSel:
		return s.N == s.Len
	case impl.OpSum:
		return wantLength(s.N) && s.Len == 1 && s.B == 0 && s.C == 0
	case impl.OpFill:
		return s.N == 1 && s.B == 0 && s.C == 0
	case impl.OpPick:
		return wantLength(s.N) && s.Len == 1 && s.B == 0 && s.C >= 0 && s.C < s.N
	}
	return s.N == 1 && s.B == 0 && s.C >= 0 && s.C < s.Len
}

// wantVerify is Verify by the text of 5.2.
func wantVerify(c impl.Code) bool {
	if len(c.Ins) > 20 || len(c.Steps) > 2000 || len(c.Outs) > 50 || c.Peak < 0 || c.Peak > 50000 {
		return false
	}
	for _, n := range c.Ins {
		if !wantLength(n) {
			return false
		}
	}
	filled := make([]bool, c.Peak)
	allFilled := func(p impl.Span) bool {
		for k := p.Off; k < p.Off+p.Len; k++ {
			if !filled[k] {
				return false
			}
		}
		return true
	}
	for _, s := range c.Steps {
		if !wantFields(s, c.Ins) || !spanIn(s.Dst, s.Len, c.Peak) {
			return false
		}
		for _, p := range spansTaken(s) {
			if !spanIn(p.Off, p.Len, c.Peak) || !allFilled(p) {
				return false
			}
			for k := p.Off; k < p.Off+p.Len; k++ {
				if k >= s.Dst && k < s.Dst+s.Len {
					return false
				}
			}
		}
		for k := range s.Len {
			filled[s.Dst+k] = true
		}
	}
	for _, o := range c.Outs {
		if !wantLength(o.Len) || !spanIn(o.Off, o.Len, c.Peak) || !allFilled(o) {
			return false
		}
	}
	return true
}

// wantFit answers whether there are as many inputs as ins says, each as long.
func wantFit(ins []int, inputs [][]float64) bool {
	lens := []int{}
	for _, list := range inputs {
		lens = append(lens, len(list))
	}
	return slices.Equal(lens, ins)
}

// wantRun is RunCode by the text of 5.3. It panics at a cell that was not written.
func wantRun(c impl.Code, inputs [][]float64) ([][]float64, int, int) {
	if !wantVerify(c) {
		return nil, 0, impl.CodeBad
	}
	if !wantFit(c.Ins, inputs) {
		return nil, 0, impl.CodeShape
	}
	cells, filled := make([]float64, c.Peak), make([]bool, c.Peak)
	read := func(p impl.Span) []float64 {
		out := []float64{}
		for k := p.Off; k < p.Off+p.Len; k++ {
			if !filled[k] {
				panic("a cell that was not written")
			}
			out = append(out, cells[k])
		}
		return out
	}
	steps := 0
	for _, s := range c.Steps {
		var abc [3][]float64
		for k, p := range spansTaken(s) {
			abc[k] = read(p)
		}
		elements := wantKernel(impl.Val{Op: s.Op, Len: s.Len, C: s.C, K: s.K}, abc[0], abc[1], abc[2])
		if s.Op == impl.OpInput {
			elements = inputs[s.A]
		}
		for k, f := range elements {
			cells[s.Dst+k], filled[s.Dst+k] = f, true
		}
		steps++
	}
	outs := [][]float64{}
	for _, o := range c.Outs {
		outs = append(outs, read(o))
	}
	return outs, steps, impl.CodeOK
}

// wantCompile is Compile by the text of 5.4. What ParseSource answers is looked at by the tests of stage 3.
func wantCompile(text string, passes []int, budget int) (impl.Code, int, int) {
	if len(passes) > 50 {
		return impl.Code{}, impl.CodePass, 50
	}
	for i, p := range passes {
		if p < 0 || p > 4 {
			return impl.Code{}, impl.CodePass, i
		}
	}
	g, code, at := impl.ParseSource([]byte(text))
	if code != impl.CodeOK {
		return impl.Code{}, code, at
	}
	small, _ := wantOptimise(g, passes)
	c, code := wantPlan(small, budget)
	return c, code, 0
}

// wantSolve is Solve by the text of 5.4.
func wantSolve(text string, passes []int, budget int, inputs [][]float64) impl.Result {
	c, code, at := wantCompile(text, passes, budget)
	if code != impl.CodeOK {
		return impl.Result{Code: code, At: at}
	}
	outs, steps, code := wantRun(c, inputs)
	if code == impl.CodeShape {
		return impl.Result{Code: impl.CodeShape, Peak: c.Peak}
	}
	return impl.Result{Steps: steps, Peak: c.Peak, Outs: outs}
}
