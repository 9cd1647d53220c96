package tests

import (
	"slices"
	"strings"

	"loop.example/s08086/impl"
)

// The tables of 2.1 and 2.2 as text. A rule is a list of steps with ; between them; a step is an operation and its fields,
// perhaps with a name for its value ahead of it, or a name alone; the last step is the answer. A, B and C are the operands
// of the value i, d is its slope, ta, tb and tc are the operands' moves, @ is its place.

// wantParts are the parts for A, B and C.
func wantParts(op int) []string {
	switch op {
	case impl.OpAdd:
		return []string{"d", "d"}
	case impl.OpSub:
		return []string{"d", "neg d"}
	case impl.OpMul:
		return []string{"mul d B", "mul d A"}
	case impl.OpDiv:
		return []string{"div d B", "m = mul d i; q = div m B; neg q"}
	case impl.OpNeg:
		return []string{"neg d"}
	case impl.OpMax:
		return []string{"t = sub A B; z = zeros; sel t d z", "t = sub A B; z = zeros; sel t z d"}
	case impl.OpSel:
		return []string{"", "z = zeros; sel A d z", "z = zeros; sel A z d"}
	case impl.OpSum:
		return []string{"fill d"}
	case impl.OpFill:
		return []string{"sum d"}
	case impl.OpPick:
		return []string{"put d 0 @"}
	case impl.OpPut:
		return []string{"pick d 0 @"}
	case impl.OpExp:
		return []string{"mul d i"}
	}
	return nil
}

// wantMove is the move of a value of which the operands that moving names have one: "", "a", "b", "ab", ..
func wantMove(op int, moving string) string {
	if op == impl.OpSel {
		moving = strings.TrimPrefix(moving, "a")
	}
	rules := map[int]map[string]string{
		impl.OpAdd: {"ab": "add ta tb", "a": "ta", "b": "tb"},
		impl.OpSub: {"ab": "sub ta tb", "a": "ta", "b": "neg tb"},
		impl.OpMul: {"ab": "p = mul ta B; q = mul A tb; add p q", "a": "mul ta B", "b": "mul A tb"},
		impl.OpDiv: {"ab": "p = div ta B; m = mul i tb; q = div m B; sub p q", "a": "div ta B", "b": "m = mul i tb; q = div m B; neg q"},
		impl.OpNeg: {"a": "neg ta"},
		impl.OpMax: {"ab": "d = sub A B; sel d ta tb", "a": "d = sub A B; z = zeros; sel d ta z", "b": "d = sub A B; z = zeros; sel d z tb"},
		impl.OpSel: {"bc": "sel A tb tc", "b": "z = zeros; sel A tb z", "c": "z = zeros; sel A z tc"},
		impl.OpSum: {"a": "sum ta"}, impl.OpFill: {"a": "fill ta"},
		impl.OpPick: {"a": "pick ta 0 @"}, impl.OpPut: {"a": "put ta 0 @"},
		impl.OpExp: {"a": "mul ta i"},
	}
	return rules[op][moving]
}

// longer is a graph to which a rule puts values behind.
type longer struct {
	g impl.Graph
}

func (l *longer) put(v impl.Val) int {
	l.g.Vals = append(l.g.Vals, v)
	return len(l.g.Vals) - 1
}

// follow carries out a rule; lengthOf says what length a value with this Op gets.
func (l *longer) follow(rule string, names map[string]int, lengthOf func(op int) int) int {
	last := 0
	for _, step := range strings.Split(rule, ";") {
		name := ""
		if before, after, found := strings.Cut(step, "="); found {
			name, step = strings.TrimSpace(before), after
		}
		words := strings.Fields(step)
		op := slices.Index([]string{"input", "const", "add", "sub", "mul", "div", "neg", "max", "sel", "sum", "fill", "pick", "put", "exp"}, words[0])
		switch {
		case words[0] == "zeros":
			last = l.put(constant(lengthOf(impl.OpConst), 0))
		case op < 0:
			last = names[words[0]]
		default:
			var fields [3]int
			for k, w := range words[1:] {
				fields[k] = names[w]
			}
			last = l.put(val(op, lengthOf(op), fields[0], fields[1], fields[2]))
		}
		names[name] = last
	}
	return last
}

func namesFor(v impl.Val, i int) map[string]int {
	return map[string]int{"A": v.A, "B": v.B, "C": v.C, "@": v.C, "i": i, "0": 0}
}

func inList(list []impl.Val, indexes ...int) bool {
	for _, i := range indexes {
		if i < 0 || i >= len(list) {
			return false
		}
	}
	return true
}

func beyondLimits(g impl.Graph) bool {
	cells := 0
	for _, v := range g.Vals {
		cells += v.Len
	}
	return len(g.Vals) > 2000 || cells > 50000
}

// wantGrad is Grad by the text of 2.1.
func wantGrad(g impl.Graph, s, x int) (impl.Graph, int, int) {
	if !wantValid(g) || !inList(g.Vals, s, x) {
		return impl.Graph{}, 0, impl.CodeBad
	}
	if g.Vals[s].Len != 1 {
		return impl.Graph{}, 0, impl.CodeShape
	}
	l := &longer{copyGraph(g)}
	at := l.gradient(s, x)
	if beyondLimits(l.g) {
		return impl.Graph{}, 0, impl.CodeLimit
	}
	return l.g, at, impl.CodeOK
}

func (l *longer) gradient(s, x int) int {
	n := l.g.Vals[x].Len
	active := map[int]bool{x: true}
	for i := x + 1; i <= s; i++ {
		for _, o := range fieldsThatAreOperands(l.g.Vals[i]) {
			active[i] = active[i] || active[o]
		}
	}
	if !active[s] {
		return l.put(constant(n, 0))
	}
	slopes := map[int]int{s: l.put(constant(1, 1))}
	for i := s; i > x; i-- {
		d, found := slopes[i]
		if !active[i] || !found {
			continue
		}
		v := l.g.Vals[i]
		for k, o := range fieldsThatAreOperands(v) {
			rule := wantParts(v.Op)[k]
			if !active[o] || rule == "" {
				continue
			}
			names := namesFor(v, i)
			names["d"] = d
			part := l.follow(rule, names, func(op int) int { return partLength(l.g, v, op) })
			if old, found := slopes[o]; found {
				part = l.put(val(impl.OpAdd, l.g.Vals[o].Len, old, part, 0))
			}
			slopes[o] = part
		}
	}
	if at, found := slopes[x]; found {
		return at
	}
	return l.put(constant(n, 0))
}

func fieldsThatAreOperands(v impl.Val) []int {
	return []int{v.A, v.B, v.C}[:ruleOf(v.Op).operands]
}

// partLength is what 2.1 says of lengths below its table.
func partLength(g impl.Graph, v impl.Val, op int) int {
	switch op {
	case impl.OpFill, impl.OpPut:
		return g.Vals[v.A].Len
	case impl.OpSum, impl.OpPick:
		return 1
	}
	return v.Len
}

// wantJvp is Jvp by the text of 2.2.
func wantJvp(g impl.Graph, s, x, t int) (impl.Graph, int, int) {
	if !wantValid(g) || !inList(g.Vals, s, x, t) {
		return impl.Graph{}, 0, impl.CodeBad
	}
	if g.Vals[t].Len != g.Vals[x].Len {
		return impl.Graph{}, 0, impl.CodeShape
	}
	l := &longer{copyGraph(g)}
	at := l.derivative(s, x, t)
	if beyondLimits(l.g) {
		return impl.Graph{}, 0, impl.CodeLimit
	}
	return l.g, at, impl.CodeOK
}

func (l *longer) derivative(s, x, t int) int {
	moves := map[int]int{x: t}
	for i := x + 1; i <= s; i++ {
		v := l.g.Vals[i]
		names, moving := namesFor(v, i), ""
		for k, o := range fieldsThatAreOperands(v) {
			if m, found := moves[o]; found {
				names["t"+"abc"[k:k+1]] = m
				moving += "abc"[k : k+1]
			}
		}
		if rule := wantMove(v.Op, moving); rule != "" {
			moves[i] = l.follow(rule, names, func(int) int { return v.Len })
		}
	}
	if at, found := moves[s]; found && s >= x {
		return at
	}
	return l.put(constant(l.g.Vals[s].Len, 0))
}
