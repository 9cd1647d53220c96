package tests

import (
	"math"
	"slices"
	"testing"

	"loop.example/s08086/impl"
)

// withRoom answers a list with the same elements and some memory behind its end.
func withRoom(list []float64) []float64 {
	room := make([]float64, len(list)+8)
	for i := range room {
		room[i] = 123
	}
	copy(room, list)
	return room[:len(list)]
}

func roomTouched(list []float64) bool {
	for _, f := range list[len(list):cap(list)] {
		if f != 123 {
			return true
		}
	}
	return false
}

// No call writes into an argument of Kernel, and its answer shares no memory with one.
func TestKernelMemory(t *testing.T) {
	s := &source{12}
	for op := impl.OpInput; op <= impl.OpExp; op++ {
		for _, n := range []int{1, 4, impl.MaxLen} {
			length, lens := lensFor(op, n)
			var abc, before [3][]float64
			for i := range lens {
				abc[i] = withRoom(someFloats(s, lens[i]))
				before[i] = slices.Clone(abc[i])
			}
			v := impl.Val{Op: op, Len: length, K: 3}
			got := impl.Kernel(v, abc[0], abc[1], abc[2])
			answer := slices.Clone(got)
			scribble(got, 55)
			for i := range lens {
				if !rawEqual(abc[i], before[i]) || roomTouched(abc[i]) {
					t.Errorf("%s: operand %d is written to, or shared", ruleOf(op).name, i)
				}
			}
			again := impl.Kernel(v, abc[0], abc[1], abc[2])
			if !sameList(again, answer) {
				t.Errorf("%s: another answer the second time", ruleOf(op).name)
			}
			for i := range abc {
				scribble(abc[i], 77)
			}
			if !sameList(again, answer) {
				t.Errorf("%s: the answer changes with an operand", ruleOf(op).name)
			}
		}
	}
}

// One list as several operands at once is read only.
func TestKernelOneListForAll(t *testing.T) {
	for op := impl.OpConst; op <= impl.OpExp; op++ {
		length, lens := lensFor(op, 3)
		if len(lens) == 0 {
			continue
		}
		a := withRoom(someFloats(&source{13}, lens[0]))
		before := slices.Clone(a)
		got := impl.Kernel(val(op, length, 0, 0, 0), a, a, a)
		if !rawEqual(a, before) || roomTouched(a) || !sameList(got, wantKernel(val(op, length, 0, 0, 0), before, before, before)) {
			t.Errorf("%s of one list: %v", ruleOf(op).name, got)
		}
	}
}

// No call writes into a graph or an input, and no answer of Eval shares memory with one.
func TestEvalMemory(t *testing.T) {
	s := &source{14}
	for range 3000 {
		g := anyGraph(s)
		inputs := inputsFor(s, g)
		for i := range inputs {
			inputs[i] = withRoom(inputs[i])
		}
		keptGraph, keptInputs := copyGraph(g), copyLists(inputs)
		outs, code := impl.Eval(g, inputs)
		if code != impl.CodeOK {
			t.Fatalf("%d", code)
		}
		answer := copyLists(outs)
		checkApart(t, outs, answer)
		if !sameGraph(g, keptGraph) || !slices.EqualFunc(inputs, keptInputs, rawEqual) || slices.ContainsFunc(inputs, roomTouched) {
			t.Fatalf("an argument is written to, or shared: %+v", g)
		}
		again, _ := impl.Eval(g, inputs)
		for i := range inputs {
			scribble(inputs[i], 77)
		}
		if !sameLists(again, answer) {
			t.Fatalf("the answer changes with an input, or a call remembers another: %+v", g)
		}
	}
}

// checkApart writes over each list in turn and looks whether another one changes.
func checkApart(t *testing.T, lists, answer [][]float64) {
	t.Helper()
	for i := range lists {
		scribble(lists[i], 55)
		for j := range lists {
			if j > i && !sameList(lists[j], answer[j]) {
				t.Fatalf("lists %d and %d of one answer share memory", i, j)
			}
		}
	}
	for i := len(lists) - 1; i >= 0; i-- {
		scribble(lists[i], 66)
		for j := range i {
			if slices.Contains(lists[j], 66) {
				t.Fatalf("lists %d and %d of one answer share memory", j, i)
			}
		}
	}
}

// An output that stands twice, and one that is an input, have memory of their own.
func TestEvalOutputsShareNothing(t *testing.T) {
	g := impl.Graph{Ins: []int{2, 2}, Outs: []int{0, 0, 2, 2, 1, 3, 0}, Vals: []impl.Val{
		val(impl.OpInput, 2, 0, 0, 0), val(impl.OpInput, 2, 1, 0, 0), val(impl.OpAdd, 2, 0, 1, 0), val(impl.OpInput, 2, 0, 0, 0)}}
	one := []float64{1, 2}
	outs, code := impl.Eval(g, [][]float64{one, one})
	want := [][]float64{{1, 2}, {1, 2}, {2, 4}, {2, 4}, {1, 2}, {1, 2}, {1, 2}}
	if code != impl.CodeOK || !sameLists(outs, want) {
		t.Fatalf("%d %v", code, outs)
	}
	checkApart(t, outs, want)
	if !rawEqual(one, []float64{1, 2}) {
		t.Errorf("the input is shared: %v", one)
	}
}

// Graphs and inputs that are refused are not written to either.
func TestRefusedArgumentsStay(t *testing.T) {
	s := &source{15}
	for range 3000 {
		g := anyGraph(s)
		inputs := append(inputsFor(s, g), []float64{math.NaN()})
		kept, keptInputs := copyGraph(g), copyLists(inputs)
		impl.ValidGraph(g)
		if _, code := impl.Eval(g, inputs); code != impl.CodeShape {
			t.Fatalf("%d", code)
		}
		g.Outs, kept.Outs = append(g.Outs, -1), append(kept.Outs, -1)
		if _, code := impl.Eval(g, inputs); code != impl.CodeBad {
			t.Fatalf("%d", code)
		}
		if impl.ValidGraph(g) || !sameGraph(g, kept) || !slices.EqualFunc(inputs, keptInputs, rawEqual) {
			t.Fatalf("an argument is written to: %+v", g)
		}
	}
}
