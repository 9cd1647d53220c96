package tests

import (
	"math"
	"slices"
	"strings"
	"testing"

	"loop.example/s08086/impl"
)

// gappy answers a valid graph of values of many lengths, used soon, late or never, so that gaps of all kinds come about.
func gappy(s *source, size int) impl.Graph {
	g := impl.Graph{}
	for range 1 + s.below(3) {
		g.Ins = append(g.Ins, 1+s.below(7))
	}
	for len(g.Vals) < size {
		v := anyVal(s, g)
		if len(g.Vals) > 0 && s.below(3) == 0 {
			v = impl.Val{Op: impl.OpSum, Len: 1, A: s.below(len(g.Vals))}
		}
		if one := withLength(s, g, 1); one >= 0 && s.below(3) == 0 {
			n := 1 + s.below(9)
			v = []impl.Val{{Op: impl.OpFill, Len: n, A: one}, {Op: impl.OpPut, Len: n, A: one, C: s.below(n)}}[s.below(2)]
		}
		g.Vals = append(g.Vals, v)
	}
	for range s.below(7) {
		if size > 0 {
			g.Outs = append(g.Outs, s.below(size))
		}
	}
	return g
}

// P11 and P12: graphs drawn at random.
func TestPlanOfAnyGraph(t *testing.T) {
	s := &source{140}
	reused, gaps := 0, 0
	for round := range 6000 {
		g := gappy(s, s.below(30))
		switch round % 6 {
		case 0:
			g = anyGraph(s)
		case 1:
			g = knotted(s, s.below(40))
		case 2:
			g = closeGraph(s, 3+s.below(20))
		}
		c := checkPlan(t, s, g)
		if c.Peak < elementsIn(g) {
			reused++
		}
		for i := 1; i < len(c.Steps); i++ {
			if c.Steps[i].Dst > 0 && c.Steps[i].Dst < c.Steps[i-1].Dst {
				gaps++
			}
		}
		for range 3 {
			planned(t, g, s.below(elementsIn(g)+2)-1)
		}
	}
	if reused < 4000 || gaps < 4000 {
		t.Errorf("%d graphs reuse cells, %d gaps: not much of a test", reused, gaps)
	}
	for range 5 {
		checkPlan(t, s, gappy(s, 400))
	}
}

// P12: over all budgets, the code is CodeBudget below Peak and CodeOK from there on.
func TestPlanOfEveryBudget(t *testing.T) {
	s := &source{141}
	for range 150 {
		g := gappy(s, s.below(25))
		c, _ := planned(t, g, impl.MaxCells)
		for budget := -2; budget <= elementsIn(g)+1; budget++ {
			want := impl.CodeOK
			if budget < c.Peak {
				want = impl.CodeBudget
			}
			if _, code := planned(t, g, budget); code != want {
				t.Fatalf("budget %d of %d: code %d", budget, c.Peak, code)
			}
		}
	}
}

// P11 and P12: graphs in which one number was changed, good or bad.
func TestPlanOfChangedGraphs(t *testing.T) {
	s := &source{142}
	codes := map[int]int{}
	for range 8000 {
		g := closeGraph(s, 4+s.below(8))
		g.Ins, g.Outs = slices.Clone(g.Ins), append(g.Outs, 0)
		changeOneNumber(s, g)
		_, code := planned(t, g, s.below(40)-2)
		codes[code]++
	}
	if codes[impl.CodeOK] < 300 || codes[impl.CodeBad] < 4000 || codes[impl.CodeBudget] < 100 {
		t.Errorf("%v: not much of a test", codes)
	}
}

// P11 and P12: the graphs of sources with gradients in them.
func TestPlanOfSources(t *testing.T) {
	s := &source{143}
	texts := gradientSources()
	for len(texts) < 500 {
		text := written(s, anyLines(s))
		_, code, _ := impl.ParseSource([]byte(text))
		if code == impl.CodeOK && (strings.Contains(text, "grad") || strings.Contains(text, "jvp")) {
			texts = append(texts, text)
		}
	}
	for _, text := range texts {
		g, _, _ := impl.ParseSource([]byte(text))
		if elementsIn(g) < 5000 {
			checkPlan(t, s, g)
			continue
		}
		c, _ := planned(t, g, impl.MaxCells)
		if _, code := planned(t, g, c.Peak-1); code != impl.CodeBudget {
			t.Fatalf("%s: code %d", text, code)
		}
		inputs := inputsFor(s, g)
		want, _ := impl.Eval(g, inputs)
		if outs, _, code := ran(t, c, inputs); code != impl.CodeOK || !sameLists(outs, want) {
			t.Fatalf("%s: code %d", text, code)
		}
	}
}

// anyStep answers a step whose numbers are mostly good for an arena of this size.
func anyStep(s *source, c impl.Code) impl.Step {
	cell := func() int { return s.below(c.Peak + 1) }
	op := s.below(14)
	n := 1 + s.below(4)
	step := impl.Step{Op: op, Len: n, Dst: cell(), K: someFloats(s, 1)[0]}
	switch op {
	case impl.OpInput:
		step.A = s.below(len(c.Ins) + 1)
		if step.A < len(c.Ins) {
			step.Len = c.Ins[step.A]
		}
		return step
	case impl.OpConst:
		return step
	case impl.OpSum, impl.OpPick:
		step.Len, step.N = 1, n
	case impl.OpFill, impl.OpPut:
		step.N = 1
	default:
		step.N = n
	}
	step.A = cell()
	if ruleOf(op).operands > 1 {
		step.B = cell()
	}
	if ruleOf(op).operands > 2 {
		step.C = cell()
	}
	if ruleOf(op).place {
		step.C = s.below(n)
	}
	return step
}

// anyCode answers a code that is taken, and that mostly no plan makes.
func anyCode(s *source) impl.Code {
	c := impl.Code{Peak: 1 + s.below(16)}
	for range s.below(4) {
		c.Ins = append(c.Ins, 1+s.below(4))
	}
	for range s.below(160) {
		longer := copyCode(c)
		longer.Steps = append(longer.Steps, anyStep(s, c))
		if wantVerify(longer) {
			c = longer
		}
	}
	for range s.below(20) {
		longer := copyCode(c)
		longer.Outs = append(longer.Outs, impl.Span{Off: s.below(c.Peak), Len: 1 + s.below(c.Peak)})
		if wantVerify(longer) {
			c = longer
		}
	}
	return c
}

func inputsOf(s *source, c impl.Code) [][]float64 {
	return inputsFor(s, impl.Graph{Ins: c.Ins})
}

// P13: any code that is taken, and the same code with some numbers changed.
func TestRunCodeOfAnyCode(t *testing.T) {
	s := &source{144}
	codes := map[int]int{}
	steps := 0
	for range 4000 {
		c := anyCode(s)
		if !verified(t, c) {
			t.Fatalf("%s is refused", toldCode(c))
		}
		for range 2 {
			_, n, code := ran(t, c, inputsOf(s, c))
			codes[code]++
			steps += n
		}
		for range 4 {
			changed := copyCode(c)
			for range 1 + s.below(2) {
				changeCode(s, &changed)
			}
			verified(t, changed)
			_, _, code := ran(t, changed, inputsOf(s, c))
			codes[code]++
		}
	}
	if codes[impl.CodeOK] < 9000 || codes[impl.CodeBad] < 9000 || codes[impl.CodeShape] < 200 || steps < 60000 {
		t.Errorf("%v, %d steps: not much of a test", codes, steps)
	}
}

// changeCode changes one number of a code, a little or much.
func changeCode(s *source, c *impl.Code) {
	numbers := []*int{&c.Peak}
	for i := range c.Ins {
		numbers = append(numbers, &c.Ins[i])
	}
	for i := range c.Steps {
		numbers = append(numbers, stepFields(&c.Steps[i])...)
	}
	for i := range c.Outs {
		numbers = append(numbers, &c.Outs[i].Off, &c.Outs[i].Len)
	}
	n := numbers[s.below(len(numbers))]
	switch s.below(4) {
	case 0:
		*n = farInts()[s.below(len(farInts()))]
	case 1:
		*n = s.below(20)
	default:
		*n += []int{-1, 1}[s.below(2)]
	}
}

// P16: any source, any list of passes, any budget.
func TestSolveOfAnySource(t *testing.T) {
	s := &source{145}
	codes := map[int]int{}
	raised, lowered := 0, 0
	for round := range 2500 {
		text := written(s, anyLines(s))
		if round%8 == 0 {
			text = gradientSources()[s.below(len(gradientSources()))]
		}
		g, parsedCode, _ := impl.ParseSource([]byte(text))
		if parsedCode == impl.CodeOK && elementsIn(g) > 6000 && round%4 > 0 {
			continue
		}
		passes := anyPasses(s, s.below(8))
		if s.below(12) == 0 {
			passes = append(passes, wrongPasses()[s.below(len(wrongPasses()))])
		}
		inputs := inputsFor(s, g)
		if s.below(8) == 0 {
			inputs = append(inputs, []float64{1})
		}
		first := solved(t, text, passes, impl.MaxCells, inputs)
		codes[first.Code]++
		if first.Code != impl.CodeOK {
			continue
		}
		plain := impl.Solve([]byte(text), nil, impl.MaxCells, inputs)
		if first.Peak > plain.Peak {
			raised++
		} else if first.Peak < plain.Peak {
			lowered++
		}
		for _, budget := range []int{first.Peak, first.Peak - 1, plain.Peak, s.below(elementsIn(g) + 1), math.MaxInt} {
			next := solved(t, text, passes, budget, inputs)
			codes[next.Code]++
			if fits := budget >= first.Peak; fits && !sameResult(next, first) || !fits && !sameResult(next, impl.Result{Code: impl.CodeBudget}) {
				t.Fatalf("%s passes %v budget %d: %+v", text, passes, budget, next)
			}
		}
	}
	for _, c := range []int{impl.CodeOK, impl.CodeName, impl.CodeShape, impl.CodeLimit, impl.CodePass, impl.CodeBudget} {
		if codes[c] < 40 {
			t.Errorf("code %d was answered %d times: not much of a test", c, codes[c])
		}
	}
	if raised < 10 || lowered < 200 {
		t.Errorf("passes raised the peak of %d and lowered that of %d: not much of a test", raised, lowered)
	}
}

// P16 and P7: sources in which bytes were changed.
func TestCompileOfChangedSources(t *testing.T) {
	s := &source{146}
	codes := map[int]int{}
	for range 3000 {
		text := gradientSources()[s.below(len(gradientSources()))]
		text = withBytesChanged(s, text)
		_, code, _ := compiled(t, text, anyPasses(s, s.below(3)), s.below(100))
		codes[code]++
		solved(t, text, nil, impl.MaxCells, [][]float64{{1, 2, 3}})
	}
	if codes[impl.CodeSyntax] < 500 || codes[impl.CodeOK] < 100 || codes[impl.CodeName] < 100 {
		t.Errorf("%v: not much of a test", codes)
	}
}
