package tests

import (
	"math"
	"slices"
	"strconv"
	"strings"
	"testing"

	"loop.example/s08086/impl"
)

// neededIn answers which values an output needs, each found from the outputs on.
func neededIn(g impl.Graph) map[int]bool {
	needed := map[int]bool{}
	var need func(i int)
	need = func(i int) {
		if needed[i] {
			return
		}
		needed[i] = true
		for _, o := range fieldsThatAreOperands(g.Vals[i]) {
			need(o)
		}
	}
	for _, o := range g.Outs {
		need(o)
	}
	return needed
}

// replaceOperands puts another index where an operand was found equal to an earlier value.
func replaceOperands(v *impl.Val, equal map[int]int) {
	for _, f := range fieldsOf(v)[:ruleOf(v.Op).operands] {
		if other, found := equal[*f]; found {
			*f = other
		}
	}
}

func replaceOuts(g impl.Graph, equal map[int]int) {
	for i, o := range g.Outs {
		if other, found := equal[o]; found {
			g.Outs[i] = other
		}
	}
}

func wantDead(g impl.Graph) impl.Graph {
	needed := neededIn(g)
	places := map[int]int{}
	out := impl.Graph{Ins: g.Ins, Outs: g.Outs}
	for i := range g.Vals {
		if needed[i] {
			places[i] = len(places)
			v := g.Vals[i]
			replaceOperands(&v, places)
			out.Vals = append(out.Vals, v)
		}
	}
	replaceOuts(out, places)
	return out
}

// wantEqual is what PassCommon, PassNeg and PassUnit have in common; found answers -1 for a value equal to no other.
func wantEqual(g impl.Graph, found func(i int) int) impl.Graph {
	equal := map[int]int{}
	for i := range g.Vals {
		replaceOperands(&g.Vals[i], equal)
		if other := found(i); other >= 0 {
			equal[i] = other
			if last, again := equal[other]; again {
				equal[i] = last
			}
		}
	}
	replaceOuts(g, equal)
	return g
}

func wantCommon(g impl.Graph) impl.Graph {
	return wantEqual(g, func(i int) int {
		return slices.IndexFunc(g.Vals[:i], func(w impl.Val) bool {
			v := g.Vals[i]
			sameK := v.Op != impl.OpConst || sameOne(v.K, w.K)
			return sameK && v.Op == w.Op && v.Len == w.Len && v.A == w.A && v.B == w.B && v.C == w.C
		})
	})
}

func wantNeg(g impl.Graph) impl.Graph {
	return wantEqual(g, func(i int) int {
		v := g.Vals[i]
		if v.Op != impl.OpNeg || g.Vals[v.A].Op != impl.OpNeg {
			return -1
		}
		return g.Vals[v.A].A
	})
}

func wantUnit(g impl.Graph) impl.Graph {
	return wantEqual(g, func(i int) int {
		v := g.Vals[i]
		is := func(o int, k float64) bool { return g.Vals[o].Op == impl.OpConst && sameOne(g.Vals[o].K, k) }
		switch {
		case v.Op == impl.OpMul && is(v.B, 1), v.Op == impl.OpDiv && is(v.B, 1):
			return v.A
		case v.Op == impl.OpSub && is(v.B, 0), v.Op == impl.OpAdd && is(v.B, minusZero()):
			return v.A
		case v.Op == impl.OpMul && is(v.A, 1), v.Op == impl.OpAdd && is(v.A, minusZero()):
			return v.B
		}
		return -1
	})
}

func wantFold(g impl.Graph) impl.Graph {
	for i, v := range g.Vals {
		var lists [3][]float64
		constants := 0
		for k, o := range fieldsThatAreOperands(v) {
			if g.Vals[o].Op == impl.OpConst {
				lists[k] = slices.Repeat([]float64{g.Vals[o].K}, g.Vals[o].Len)
				constants++
			}
		}
		if constants == 0 || constants < ruleOf(v.Op).operands {
			continue
		}
		elements := wantKernel(v, lists[0], lists[1], lists[2])
		if !slices.ContainsFunc(elements, func(f float64) bool { return !sameOne(f, elements[0]) }) {
			g.Vals[i] = constant(v.Len, elements[0])
		}
	}
	return g
}

// wantPass is one of the five passes over a valid graph, by the text of chapter 4.
func wantPass(g impl.Graph, pass int) impl.Graph {
	g = copyGraph(g)
	switch pass {
	case impl.PassDead:
		return wantDead(g)
	case impl.PassCommon:
		return wantCommon(g)
	case impl.PassFold:
		return wantFold(g)
	case impl.PassNeg:
		return wantNeg(g)
	}
	return wantUnit(g)
}

// wantOptimise is Optimise by the text of chapter 4.
func wantOptimise(g impl.Graph, passes []int) (impl.Graph, int) {
	if !wantValid(g) {
		return impl.Graph{}, impl.CodeBad
	}
	if len(passes) > 50 || slices.ContainsFunc(passes, func(p int) bool { return p < 0 || p > 4 }) {
		return impl.Graph{}, impl.CodePass
	}
	for _, p := range passes {
		g = wantPass(g, p)
	}
	return g, impl.CodeOK
}

// readGraph reads what told tells; lengths of 1 may be left out, and bits stand for a constant that begins with 0x.
func readGraph(t *testing.T, text string) impl.Graph {
	t.Helper()
	number := func(word string) int {
		n, err := strconv.Atoi(word)
		if err != nil {
			t.Fatalf("%q in %q", word, text)
		}
		return n
	}
	parts := strings.Split(text, ";")
	lists := [2][]int{}
	for k, part := range []string{parts[0], parts[len(parts)-1]} {
		for _, word := range strings.Fields(part)[1:] {
			lists[k] = append(lists[k], number(word))
		}
	}
	g := impl.Graph{Ins: lists[0], Outs: lists[1]}
	for _, part := range parts[1 : len(parts)-1] {
		words := strings.Fields(part)
		v := impl.Val{Len: 1}
		for ruleOf(v.Op).name != words[0] {
			v.Op++
		}
		if k := len(words) - 2; words[k] == ":" {
			v.Len = number(words[k+1])
			words = words[:k]
		}
		if v.Op == impl.OpConst {
			v.K = readFloat(t, words[1])
			words = words[:1]
		}
		fields := fieldsOf(&v)
		for k, word := range words[1:] {
			if word[0] == '@' {
				v.C = number(word[1:])
			} else {
				*fields[k] = number(word)
			}
		}
		g.Vals = append(g.Vals, v)
	}
	return g
}

func readFloat(t *testing.T, word string) float64 {
	t.Helper()
	if digits, bits := strings.CutPrefix(word, "0x"); bits {
		n, err := strconv.ParseUint(digits, 16, 64)
		if err != nil {
			t.Fatal(err)
		}
		return math.Float64frombits(n)
	}
	f, err := strconv.ParseFloat(word, 64)
	if err != nil {
		t.Fatal(err)
	}
	return f
}
