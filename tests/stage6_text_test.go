package tests

import (
	"math"
	"slices"
	"strings"
	"testing"

	"loop.example/s08086/impl"
)

// checkText takes a graph as told tells it, and the lines of its text with | between them.
func checkText(t *testing.T, graph, lines string) {
	t.Helper()
	g := readGraph(t, graph)
	want := strings.ReplaceAll(lines, "|", "\n")
	if want != "" {
		want += "\n"
	}
	for _, from := range []impl.Graph{g, withStrayK(g)} {
		if got := texted(t, from); got != want {
			t.Errorf("%s\n got %q\nwant %q", graph, got, want)
		}
	}
}

// P15: the texts of graphs, written out.
func TestGraphText(t *testing.T) {
	checkText(t, "ins; outs", "")
	checkText(t, "ins 3; outs", "in 3")
	checkText(t, "ins 3 1000 1; outs", "in 3|in 1000|in 1")
	checkText(t, "ins 3; input 0 : 3; outs 0 0", "in 3|v0 = input 0 : 3|out v0|out v0")
	checkText(t, "ins; const 1 : 7; outs", "v0 = const 3ff0000000000000 : 7")
	checkText(t, "ins; const 1 : 7; neg 0 : 7; outs 1 0 1", "v0 = const 3ff0000000000000 : 7|v1 = neg v0 : 7|out v1|out v0|out v1")
	checkText(t, "ins 2 2; input 1 : 2; pick 0 @1 : 1; pick 0 @0 : 1; put 1 @0 : 12; put 1 @11 : 12; outs",
		"in 2|in 2|v0 = input 1 : 2|v1 = pick v0 @1 : 1|v2 = pick v0 @0 : 1|v3 = put v1 @0 : 12|v4 = put v1 @11 : 12")
	if len(impl.GraphText(impl.Graph{})) != 0 {
		t.Errorf("the empty graph has a text")
	}
}

// P15: each Op with its word and its parts.
func TestGraphTextOfEachOp(t *testing.T) {
	first := "ins 9 2; input 1 : 2; const -0.5 : 2; const 0 : 1; "
	text := "in 9|in 2|v0 = input 1 : 2|v1 = const bfe0000000000000 : 2|v2 = const 0000000000000000 : 1|v3 = "
	last := []string{
		"input 0 : 9; outs 3", "input 0 : 9|out v3",
		"const 2 : 1000; outs 3", "const 4000000000000000 : 1000|out v3",
		"add 0 1 : 2; outs 3", "add v0 v1 : 2|out v3",
		"sub 1 0 : 2; outs 3", "sub v1 v0 : 2|out v3",
		"mul 0 0 : 2; outs 3", "mul v0 v0 : 2|out v3",
		"div 0 1 : 2; outs 3", "div v0 v1 : 2|out v3",
		"neg 1 : 2; outs 3", "neg v1 : 2|out v3",
		"max 1 0 : 2; outs 3", "max v1 v0 : 2|out v3",
		"sel 1 0 1 : 2; outs 3", "sel v1 v0 v1 : 2|out v3",
		"sum 1 : 1; outs 3", "sum v1 : 1|out v3",
		"fill 2 : 1000; outs 3", "fill v2 : 1000|out v3",
		"pick 1 @1 : 1; outs 3", "pick v1 @1 : 1|out v3",
		"put 2 @10 : 11; outs 3", "put v2 @10 : 11|out v3",
		"exp 0 : 2; outs 3", "exp v0 : 2|out v3",
	}
	for i := 0; i < len(last); i += 2 {
		checkText(t, first+last[i], text+last[i+1])
	}
}

// P15: the sixteen digits of K: NaNs are one, zeros are two, zeros stand ahead of short ones.
func TestGraphTextOfFloats(t *testing.T) {
	digits := map[string][]float64{
		"0000000000000000": {0},
		"8000000000000000": {minusZero()},
		"7ff0000000000000": {math.Inf(1)},
		"fff0000000000000": {math.Inf(-1)},
		"0000000000000001": {math.SmallestNonzeroFloat64},
		"00000000000000ff": {math.Float64frombits(255)},
		"000abcdef0123456": {math.Float64frombits(0x000abcdef0123456)},
		"0123456789abcdef": {math.Float64frombits(0x0123456789abcdef)},
		"fedcba9876543210": {math.Float64frombits(0xfedcba9876543210)},
		"3fb999999999999a": {0.1},
		"7ff8000000000000": {math.NaN(), math.Float64frombits(0x7ff8000000000000), math.Float64frombits(0x7ff0000000000001), math.Float64frombits(0x7fffffffffffffff),
			math.Float64frombits(0xfff8000000000000), math.Float64frombits(0xfff0000000000001), math.Float64frombits(0xffffffffffffffff)},
	}
	for word, floats := range digits {
		for _, k := range floats {
			g := impl.Graph{Vals: []impl.Val{constant(1, k)}}
			if got := texted(t, g); got != "v0 = const "+word+" : 1\n" {
				t.Errorf("%v: %q", k, got)
			}
		}
	}
	s := &source{162}
	for _, k := range append(edgeFloats(), someFloats(s, 1000)...) {
		texted(t, impl.Graph{Vals: []impl.Val{constant(3, k)}, Outs: []int{0}})
	}
}

// P15: numbers of one and of more digits, up to the greatest.
func TestGraphTextOfNumbers(t *testing.T) {
	g := impl.Graph{Ins: slices.Repeat([]int{25}, impl.MaxIns)}
	g.Ins[19] = impl.MaxLen
	for len(g.Vals) < impl.MaxVals-4 {
		g.Vals = append(g.Vals, val(impl.OpInput, 25, len(g.Vals)%10, 0, 0))
	}
	g.Vals = append(g.Vals, val(impl.OpSel, 25, 9, 99, 999), val(impl.OpAdd, 25, 1995, 1996, 0), val(impl.OpPick, 1, 1997, 0, 24), val(impl.OpPut, 25, 1998, 0, 12))
	for n := range impl.MaxOuts {
		g.Outs = append(g.Outs, impl.MaxVals-1-n*40)
	}
	text := texted(t, g)
	for _, line := range []string{"in 25\nin 1000\n", "\nv9 = input 9 : 25\nv10 = input 0 : 25\n", "\nv1996 = sel v9 v99 v999 : 25\nv1997 = add v1995 v1996 : 25\n",
		"\nv1998 = pick v1997 @24 : 1\nv1999 = put v1998 @12 : 25\nout v1999\nout v1959\n", "\nout v79\nout v39\n"} {
		if !strings.Contains(text, line) {
			t.Errorf("%q is not there", line)
		}
	}
	if !strings.HasSuffix(text, "\nout v39\n") || strings.Count(text, "\n") != impl.MaxIns+impl.MaxVals+impl.MaxOuts {
		t.Errorf("%d lines", strings.Count(text, "\n"))
	}
	long := impl.Graph{Ins: []int{impl.MaxLen}, Vals: []impl.Val{val(impl.OpInput, impl.MaxLen, 0, 0, 0), val(impl.OpPick, 1, 0, 0, 999), val(impl.OpPut, impl.MaxLen, 1, 0, 999)}}
	if got, want := texted(t, long), "in 1000\nv0 = input 0 : 1000\nv1 = pick v0 @999 : 1\nv2 = put v1 @999 : 1000\n"; got != want {
		t.Errorf("%q", got)
	}
}

// P15: a graph that is not valid has no text.
func TestGraphTextOfFaultyGraphs(t *testing.T) {
	faulty := append(withFaults(t), impl.Graph{Outs: []int{0}}, impl.Graph{Ins: []int{0}}, impl.Graph{Vals: []impl.Val{{Op: 14, Len: 1}}}, impl.Graph{Vals: []impl.Val{{Op: -1, Len: 1}}},
		impl.Graph{Ins: slices.Repeat([]int{1}, impl.MaxIns+1)}, impl.Graph{Vals: slices.Repeat([]impl.Val{constant(1, 1)}, impl.MaxVals+1)},
		impl.Graph{Vals: []impl.Val{constant(1, 1)}, Outs: make([]int, impl.MaxOuts+1)}, impl.Graph{Vals: slices.Repeat([]impl.Val{constant(impl.MaxLen, 1)}, 51)})
	for _, g := range faulty {
		if wantValid(g) {
			t.Fatalf("%+v is valid", g)
		}
		if got := texted(t, g); got != "" {
			t.Errorf("%+v: %q", g, got)
		}
	}
	for op := range 14 {
		for k := range fieldsOf(&impl.Val{}) {
			for _, n := range farInts() {
				g := oneOf(op)
				*fieldsOf(&g.Vals[len(g.Vals)-1])[k] = n
				if got := texted(t, g); got != "" {
					t.Errorf("%+v: %q", g, got)
				}
			}
		}
	}
}

// P15: graphs that differ in one number, or in the order of their lists, have different texts.
func TestGraphTextTellsGraphsApart(t *testing.T) {
	s := &source{163}
	apart, alike := 0, 0
	for range 4000 {
		g := closeGraph(s, 3+s.below(8))
		g.Ins = slices.Clone(g.Ins)
		g.Outs = append(g.Outs, s.below(len(g.Vals)))
		h := copyGraph(g)
		switch s.below(4) {
		case 0:
			changeOneNumber(s, h)
		case 1:
			h.Ins = append(h.Ins, 1)
		case 2:
			h.Outs = h.Outs[:len(h.Outs)-1]
		case 3:
			slices.Reverse(h.Outs)
		}
		if !wantValid(h) {
			continue
		}
		same := sameMeaning(g, h)
		if (texted(t, g) == texted(t, h)) != same {
			t.Fatalf("%s\n%s", told(g), told(h))
		}
		if same {
			alike++
		} else {
			apart++
		}
	}
	if apart < 1500 || alike < 100 {
		t.Errorf("%d pairs of different graphs, %d of the same: not much of a test", apart, alike)
	}
	// texts that would be alike if a space, a sign or a line were left out
	pairs := []string{
		"ins 1 1; outs", "ins 11; outs",
		"ins 1; outs", "ins 1 1; outs",
		"ins; const 0 : 1; outs", "ins; const -0 : 1; outs",
		"ins; const 0 : 1; outs", "ins; const 0 : 1; outs 0",
		"ins; const 0 : 1; outs 0", "ins; const 0 : 1; outs 0 0",
		"ins; const 0 : 11; const 0 : 11; add 0 1 : 11; outs", "ins; const 0 : 11; const 0 : 11; add 1 0 : 11; outs",
		"ins; const 0 : 2; pick 0 @0 : 1; outs", "ins; const 0 : 2; pick 0 @1 : 1; outs",
		"ins; const 0 : 1; const 0 : 1; put 0 @1 : 2; outs", "ins; const 0 : 1; const 0 : 1; put 1 @0 : 2; outs",
		"ins; const 0 : 1; sum 0 : 1; outs", "ins; const 0 : 1; fill 0 : 1; outs",
		"ins 1 1; input 0 : 1; outs", "ins 1 1; input 1 : 1; outs",
	}
	for i := 0; i < len(pairs); i += 2 {
		if g, h := readGraph(t, pairs[i]), readGraph(t, pairs[i+1]); texted(t, g) == texted(t, h) {
			t.Errorf("%s and %s have one text", pairs[i], pairs[i+1])
		}
	}
}
