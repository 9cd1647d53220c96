package tests

import (
	"slices"
	"testing"

	"loop.example/s08086/impl"
)

// roomyCode answers the same code, with lists that have memory behind their ends, and what looks after that memory.
func roomyCode(c impl.Code) (impl.Code, func() bool) {
	whole := impl.Code{
		Ins:   append(slices.Clone(c.Ins), slices.Repeat([]int{77}, 9)...),
		Steps: append(slices.Clone(c.Steps), slices.Repeat([]impl.Step{{Op: 77}}, 9)...),
		Outs:  append(slices.Clone(c.Outs), slices.Repeat([]impl.Span{{Off: 77}}, 9)...),
	}
	kept := copyCode(whole)
	untouched := func() bool { return sameCode(whole, kept) }
	return impl.Code{Ins: whole.Ins[:len(c.Ins)], Steps: whole.Steps[:len(c.Steps)], Outs: whole.Outs[:len(c.Outs)], Peak: c.Peak}, untouched
}

// overwriteCode writes over all the memory of a code's lists, also that beyond their ends.
func overwriteCode(c impl.Code) {
	ins, steps, outs := c.Ins[:cap(c.Ins)], c.Steps[:cap(c.Steps)], c.Outs[:cap(c.Outs)]
	for i := range ins {
		ins[i] = 55
	}
	for i := range steps {
		steps[i] = impl.Step{Op: 55}
	}
	for i := range outs {
		outs[i] = impl.Span{Off: 55}
	}
}

// No call of Plan writes into its graph, and no answer shares memory with it.
func TestPlanMemory(t *testing.T) {
	s := &source{150}
	codes := map[int]int{}
	for round := range 3000 {
		g := gappy(s, s.below(20))
		if round%10 == 0 {
			g.Outs = append(g.Outs, len(g.Vals))
		}
		budget := s.below(elementsIn(g) + 1)
		given, untouched := roomy(g)
		first, code := impl.Plan(given, budget)
		codes[code]++
		kept := copyCode(first)
		overwriteCode(first)
		if !untouched() {
			t.Fatalf("the graph is written to, or shared: %s", told(g))
		}
		second, again := impl.Plan(given, budget)
		overwrite(given)
		if again != code || !sameCode(second, kept) {
			t.Fatalf("the answer changes with the graph, or a call remembers another: %s", told(g))
		}
	}
	for _, c := range []int{impl.CodeOK, impl.CodeBad, impl.CodeBudget} {
		if codes[c] < 200 {
			t.Errorf("code %d was answered %d times: not much of a test", c, codes[c])
		}
	}
}

// roomyLists answers the same lists, each with memory behind its end.
func roomyLists(lists [][]float64) [][]float64 {
	out := make([][]float64, len(lists))
	for i := range lists {
		out[i] = withRoom(lists[i])
	}
	return out
}

// No call of Verify or RunCode writes into its code or its inputs; no two lists that are answered share memory, with each other or with an argument.
func TestRunCodeMemory(t *testing.T) {
	s := &source{151}
	codes := map[int]int{}
	for round := range 3000 {
		c := anyCode(s)
		inputs := roomyLists(inputsOf(s, c))
		switch round % 10 {
		case 0:
			c.Peak = -1
		case 1:
			inputs = append(inputs, withRoom([]float64{1}))
		}
		given, untouched := roomyCode(c)
		keptInputs := copyLists(inputs)
		impl.Verify(given)
		first, _, code := impl.RunCode(given, inputs)
		codes[code]++
		answer := copyLists(first)
		checkApart(t, first, answer)
		if !untouched() || !slices.EqualFunc(inputs, keptInputs, rawEqual) || slices.ContainsFunc(inputs, roomTouched) {
			t.Fatalf("an argument is written to, or shared: %s", toldCode(c))
		}
		second, _, again := impl.RunCode(given, inputs)
		overwriteCode(given)
		for i := range inputs {
			scribble(inputs[i], 88)
		}
		if again != code || !sameLists(second, answer) {
			t.Fatalf("the answer changes with an argument, or a call remembers another: %s", toldCode(c))
		}
	}
	for _, c := range []int{impl.CodeOK, impl.CodeBad, impl.CodeShape} {
		if codes[c] < 200 {
			t.Errorf("code %d was answered %d times: not much of a test", c, codes[c])
		}
	}
}

// Outputs of the same cells have memory of their own.
func TestRunCodeOutputsShareNothing(t *testing.T) {
	c := readCode(t, "ins 3; input 0 > 0+3; outs 0+3 0+3 1+2 0+2 1+1; peak 3")
	input := withRoom([]float64{1, 2, 3})
	outs, _, code := impl.RunCode(c, [][]float64{input})
	want := [][]float64{{1, 2, 3}, {1, 2, 3}, {2, 3}, {1, 2}, {2}}
	if code != impl.CodeOK || !sameLists(outs, want) {
		t.Fatalf("code %d, %v", code, outs)
	}
	checkApart(t, outs, want)
	if !rawEqual(input, []float64{1, 2, 3}) || roomTouched(input) {
		t.Errorf("the input is shared: %v", input)
	}
}

// No call of Compile or Solve writes into an argument, keeps one, or shares memory with one in its answer.
func TestSolveMemory(t *testing.T) {
	s := &source{152}
	codes := map[int]int{}
	for round := range 1500 {
		text := gradientSources()[s.below(len(gradientSources()))]
		g, _, _ := impl.ParseSource([]byte(text))
		if round%4 == 0 {
			text = withBytesChanged(s, text)
		}
		inputs := roomyLists(inputsFor(s, g))
		if round%5 == 0 {
			inputs[0] = inputs[0][1:]
		}
		given := append([]byte(text), "@@@"...)
		passes := append(anyPasses(s, 1+s.below(6)), 77, 77, 77)
		if round%11 == 0 {
			passes[0] = 5
		}
		budget := 2 + s.below(2*elementsIn(g))
		keptText, keptPasses, keptInputs := slices.Clone(given), slices.Clone(passes), copyLists(inputs)
		source, list := given[:len(text)], passes[:len(passes)-3]
		code, number, at := impl.Compile(source, list, budget)
		result := impl.Solve(source, list, budget, inputs)
		codes[result.Code]++
		keptCode, keptOuts := copyCode(code), copyLists(result.Outs)
		overwriteCode(code)
		checkApart(t, result.Outs, keptOuts)
		if !slices.Equal(given, keptText) || !slices.Equal(passes, keptPasses) || !slices.EqualFunc(inputs, keptInputs, rawEqual) || slices.ContainsFunc(inputs, roomTouched) {
			t.Fatalf("%s: an argument is written to, or shared", text)
		}
		code, numberAgain, atAgain := impl.Compile(source, list, budget)
		again := impl.Solve(source, list, budget, inputs)
		for i := range given {
			given[i] = '('
		}
		for i := range passes {
			passes[i] = 0
		}
		for i := range inputs {
			scribble(inputs[i], 88)
		}
		result.Outs = keptOuts
		if number != numberAgain || at != atAgain || !sameCode(code, keptCode) || !sameResult(again, result) {
			t.Fatalf("%s: the answer changes with an argument, or a call remembers another", text)
		}
	}
	for _, c := range []int{impl.CodeOK, impl.CodeSyntax, impl.CodeShape, impl.CodePass, impl.CodeBudget} {
		if codes[c] < 50 {
			t.Errorf("code %d was answered %d times: not much of a test", c, codes[c])
		}
	}
}
