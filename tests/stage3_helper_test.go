package tests

import (
	"slices"
	"strconv"
	"strings"
	"testing"

	"loop.example/s08086/impl"
)

// told answers a graph in few words: its inputs, its values with their operands and lengths, its outputs.
func told(g impl.Graph) string {
	number := func(n int) string { return strconv.Itoa(n) }
	list := func(head string, ints []int) string {
		for _, n := range ints {
			head += " " + number(n)
		}
		return head
	}
	out := []string{list("ins", g.Ins)}
	for _, v := range g.Vals {
		word := ruleOf(v.Op).name
		switch {
		case v.Op == impl.OpInput:
			word += " " + number(v.A)
		case v.Op == impl.OpConst:
			word += " " + strconv.FormatFloat(v.K, 'g', -1, 64)
		}
		word = list(word, fieldsThatAreOperands(v))
		if ruleOf(v.Op).place {
			word += " @" + number(v.C)
		}
		out = append(out, word+" : "+number(v.Len))
	}
	return strings.Join(append(out, list("outs", g.Outs)), "; ")
}

// parsed calls ParseSource and looks at what holds for every call.
func parsed(t *testing.T, text string) (impl.Graph, int, int) {
	t.Helper()
	given := append([]byte(text), " out out out"...)
	kept := slices.Clone(given)
	var g impl.Graph
	var code, at int
	mustPanicNever(t, text, func() { g, code, at = impl.ParseSource(given[:len(text)]) })
	if !slices.Equal(given, kept) {
		t.Errorf("%.200q: the argument is written to", text)
	}
	if code != impl.CodeOK && !sameGraph(g, impl.Graph{}) {
		t.Errorf("%.200q: code %d with a graph: %.200s", text, code, told(g))
	}
	stray := func(v impl.Val) bool { return v.Op != impl.OpConst && !sameOne(v.K, 0) }
	if code == impl.CodeOK && (at != 0 || !wantValid(g) || slices.ContainsFunc(g.Vals, stray)) {
		t.Errorf("%.200q: CodeOK at %d with %.500s", text, at, told(g))
	}
	return g, code, at
}

func checkCode(t *testing.T, text string, wantCode, wantAt int) {
	t.Helper()
	if _, code, at := parsed(t, text); code != wantCode || at != wantAt {
		t.Errorf("%.300q: code %d at %d, want %d at %d", text, code, at, wantCode, wantAt)
	}
}

// checkFaults takes texts in which a | stands ahead of the token that is to be named.
func checkFaults(t *testing.T, code int, marked ...string) {
	t.Helper()
	for _, m := range marked {
		if strings.Count(m, "|") != 1 {
			t.Fatalf("%q has not one mark", m)
		}
		checkCode(t, strings.Replace(m, "|", "", 1), code, strings.Index(m, "|"))
	}
}

// checkGraphs takes pairs of a source and its graph, as told tells it.
func checkGraphs(t *testing.T, pairs ...string) {
	t.Helper()
	for i := 0; i < len(pairs); i += 2 {
		g, code, at := parsed(t, pairs[i])
		if code != impl.CodeOK || told(g) != pairs[i+1] {
			t.Errorf("%.300q: code %d at %d\n got %s\nwant %s", pairs[i], code, at, told(g), pairs[i+1])
		}
	}
}
