package tests

import (
	"math"
	"slices"
	"testing"

	"loop.example/s08086/impl"
)

// wrongPasses are numbers that are none of the five.
func wrongPasses() []int {
	return append(farInts(), -5, -1, 5, 6, 7, 13, 50, 51, 255, 256, 1<<32, 1<<32+1, -1<<32, math.MinInt+4)
}

// withFaults answers graphs that are not valid, each in another way.
func withFaults(t *testing.T) []impl.Graph {
	out := []impl.Graph{
		{Ins: []int{1}, Vals: []impl.Val{val(impl.OpInput, 1, 0, 0, 0)}, Outs: []int{1}},
		{Outs: []int{0}}, {Ins: []int{0}}, {Ins: []int{impl.MaxLen + 1}}, {Ins: slices.Repeat([]int{1}, impl.MaxIns+1)},
		{Vals: []impl.Val{{}}}, {Vals: []impl.Val{{Op: 14, Len: 1}}}, {Vals: []impl.Val{{Op: impl.OpConst, Len: 1, A: 1}}},
		{Vals: []impl.Val{constant(1, 1), val(impl.OpNeg, 1, 1, 0, 0)}},
		{Vals: slices.Repeat([]impl.Val{constant(1, 1)}, impl.MaxVals+1)},
		{Vals: slices.Repeat([]impl.Val{constant(1000, 1)}, 51)},
		{Vals: []impl.Val{constant(1, 1)}, Outs: make([]int, impl.MaxOuts+1)},
	}
	for i, g := range out {
		if wantValid(g) {
			t.Fatalf("graph %d is valid", i)
		}
	}
	return out
}

// P8: a graph that is not valid is told ahead of a pass that is none.
func TestPassesOfGraphsThatAreNotValid(t *testing.T) {
	s := &source{90}
	for _, g := range withFaults(t) {
		for _, p := range append(everyPass(), wrongPasses()...) {
			if _, code := passed(t, s, g, p); code != impl.CodeBad {
				t.Errorf("pass %d: code %d", p, code)
			}
		}
		lists := [][]int{nil, {}, {0, 1, 2, 3, 4}, {-1}, {0, 5}, make([]int, impl.MaxPasses), make([]int, impl.MaxPasses+1), slices.Repeat([]int{9}, impl.MaxPasses+1)}
		for _, list := range lists {
			if _, code := optimised(t, s, g, list); code != impl.CodeBad {
				t.Errorf("passes %v: code %d", list, code)
			}
		}
	}
}

// P8: with a pass that is none of the five, alone or anywhere in a list, no graph is answered.
func TestPassesThatAreNone(t *testing.T) {
	s := &source{91}
	for _, g := range []impl.Graph{{}, {Ins: []int{1}, Vals: []impl.Val{val(impl.OpInput, 1, 0, 0, 0)}, Outs: []int{0}}} {
		for _, p := range wrongPasses() {
			if out, code := passed(t, s, g, p); code != impl.CodePass || !sameGraph(out, impl.Graph{}) {
				t.Errorf("pass %d: code %d, %s", p, code, told(out))
			}
			for at := range impl.MaxPasses {
				list := make([]int, impl.MaxPasses)
				list[at] = p
				for _, passes := range [][]int{list, list[:at+1], list[at:]} {
					if out, code := optimised(t, s, g, passes); code != impl.CodePass || !sameGraph(out, impl.Graph{}) {
						t.Errorf("passes %v: code %d, %s", passes, code, told(out))
					}
				}
			}
		}
	}
}

// P8: a list of MaxPasses passes is carried out, one of one more is not.
func TestPassesAtMaxPasses(t *testing.T) {
	s := &source{92}
	g := readGraph(t, "ins 1; input 0; const 7; neg 0; outs 2")
	for _, p := range everyPass() {
		for n, wantCode := range map[int]int{0: impl.CodeOK, 1: impl.CodeOK, impl.MaxPasses - 1: impl.CodeOK, impl.MaxPasses: impl.CodeOK, impl.MaxPasses + 1: impl.CodePass, 1000: impl.CodePass} {
			list := slices.Repeat([]int{p}, n)
			out, code := optimised(t, s, g, list)
			if code != wantCode || code != impl.CodeOK && !sameGraph(out, impl.Graph{}) {
				t.Errorf("%d times the pass %d: code %d, %s", n, p, code, told(out))
			}
		}
	}
	// also the last of MaxPasses passes is carried out
	late := append(slices.Repeat([]int{impl.PassNeg}, impl.MaxPasses-1), impl.PassDead)
	if out, code := optimised(t, s, g, late); code != impl.CodeOK || told(out) != "ins 1; input 0 : 1; neg 0 : 1; outs 1" {
		t.Errorf("code %d, %s", code, told(out))
	}
	for _, wrong := range []int{-1, 5} {
		for _, list := range [][]int{append([]int{wrong}, late...), append(slices.Clone(late), wrong)} {
			if out, code := optimised(t, s, g, list); code != impl.CodePass || !sameGraph(out, impl.Graph{}) {
				t.Errorf("passes %v: code %d, %s", list, code, told(out))
			}
		}
	}
}

// P8: what a pass finds hangs on those ahead of it.
func TestPassesInTheirOrder(t *testing.T) {
	s := &source{93}
	cases := []struct {
		passes       []int
		before, want string
	}{
		{nil, "ins 1; input 0 : 1; const 7 : 1; outs 0", "ins 1; input 0 : 1; const 7 : 1; outs 0"},
		{[]int{impl.PassFold, impl.PassUnit, impl.PassDead}, "ins 1; input 0; const 0; neg 1; add 0 2; outs 3", "ins 1; input 0 : 1; outs 0"},
		{[]int{impl.PassUnit, impl.PassFold, impl.PassDead}, "ins 1; input 0; const 0; neg 1; add 0 2; outs 3", "ins 1; input 0 : 1; const -0 : 1; add 0 1 : 1; outs 2"},
		{[]int{impl.PassNeg, impl.PassCommon, impl.PassDead}, "ins 1; input 0; neg 0; neg 1; exp 0; exp 2; sub 3 4; outs 5", "ins 1; input 0 : 1; exp 0 : 1; sub 1 1 : 1; outs 2"},
		{[]int{impl.PassCommon, impl.PassNeg, impl.PassDead}, "ins 1; input 0; neg 0; neg 1; exp 0; exp 2; sub 3 4; outs 5", "ins 1; input 0 : 1; exp 0 : 1; exp 0 : 1; sub 1 2 : 1; outs 3"},
		{[]int{impl.PassUnit, impl.PassNeg, impl.PassDead}, "ins 1; input 0; const 1; neg 0; mul 2 1; neg 3; outs 4", "ins 1; input 0 : 1; outs 0"},
		{[]int{impl.PassNeg, impl.PassUnit, impl.PassDead}, "ins 1; input 0; const 1; neg 0; mul 2 1; neg 3; outs 4", "ins 1; input 0 : 1; neg 0 : 1; neg 1 : 1; outs 2"},
		{[]int{impl.PassFold, impl.PassCommon, impl.PassDead}, "ins; const 2; const 4; add 0 0; outs 2 1", "ins; const 4 : 1; outs 0 0"},
		{[]int{impl.PassCommon, impl.PassFold, impl.PassDead}, "ins; const 2; const 4; add 0 0; outs 2 1", "ins; const 4 : 1; const 4 : 1; outs 1 0"},
		{[]int{impl.PassDead, impl.PassFold}, "ins; const 2; const 4; add 0 0; outs 2", "ins; const 2 : 1; const 4 : 1; outs 1"},
	}
	for _, c := range cases {
		if got, code := optimised(t, s, readGraph(t, c.before), c.passes); code != impl.CodeOK || told(got) != c.want {
			t.Errorf("passes %v of %s: code %d\n got %s\nwant %s", c.passes, c.before, code, told(got), c.want)
		}
	}
}
