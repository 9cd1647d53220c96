package tests

import (
	"regexp"
	"slices"
	"strconv"
	"strings"

	"loop.example/s08086/impl"
)

// tree is an expression ahead of its text: "number", "name", "call", "neg", an operator or a key word.
type tree struct {
	kind  string
	words []string // the number, the name, or the ints and names behind the first expression
	of    []*tree
	place int   // the offset of the place, once it is written
	spots []int // the offsets of the words, once they are written
}

// line is a statement ahead of its text; its words are the names and ints in the order of the grammar.
type line struct {
	kind  string
	words []string
	of    *tree
	place int
	spots []int
}

// pen writes trees as text, with gaps and brackets as the generator will have them.
type pen struct {
	s    *source
	text []byte
	last string
}

var oneToken = regexp.MustCompile(`\A([a-z_]\S* [a-z0-9_]|[0-9]\S* [0-9])`)

// runTogether answers whether two tokens with nothing between them would be one.
func runTogether(first, second string) bool {
	return oneToken.MatchString(first + " " + second)
}

// token writes a token and answers its offset.
func (p *pen) token(text string) int {
	gaps := []string{"", "", "", "", "", " ", " ", " ", "  ", "\t", "\n", "\r\n", "#\n", "# out ( @\n", " #\xff;# \n "}
	gap := gaps[p.s.below(len(gaps))]
	if gap == "" && runTogether(p.last, text) {
		gap = " "
	}
	p.text = append(p.text, gap...)
	at := len(p.text)
	p.text = append(p.text, text...)
	p.last = text
	return at
}

// rank says how tightly an expression binds: an expr, a term, a unary or a primary.
func rank(e *tree) int {
	switch e.kind {
	case "+", "-":
		return 1
	case "*", "/":
		return 2
	case "neg":
		return 3
	}
	return 4
}

// write writes an expression where one of at least this rank is asked for.
func (p *pen) write(e *tree, least int) {
	if rank(e) < least || p.s.below(12) == 0 {
		p.token("(")
		p.write(e, 1)
		p.token(")")
		return
	}
	switch e.kind {
	case "number", "name":
		e.place = p.token(e.words[0])
	case "neg":
		e.place = p.token("-")
		p.write(e.of[0], 3)
	case "+", "-", "*", "/":
		p.write(e.of[0], rank(e))
		e.place = p.token(e.kind)
		p.write(e.of[1], rank(e)+1)
	case "call":
		e.place = p.token(e.words[0])
		p.list(e.of)
	default:
		p.writeKeyWord(e)
	}
}

func (p *pen) list(of []*tree) {
	p.token("(")
	for i, e := range of {
		if i > 0 {
			p.token(",")
		}
		p.write(e, 1)
	}
	p.token(")")
}

func (p *pen) writeKeyWord(e *tree) {
	e.place = p.token(e.kind)
	if len(e.words) == 0 {
		p.list(e.of)
		return
	}
	p.token("(")
	p.write(e.of[0], 1)
	e.spots = nil
	for _, word := range e.words {
		p.token(",")
		e.spots = append(e.spots, p.token(word))
	}
	for _, o := range e.of[1:] {
		p.token(",")
		p.write(o, 1)
	}
	p.token(")")
}

func (p *pen) writeLine(l *line) {
	l.place = p.token(l.kind)
	l.spots = []int{p.token(l.words[0])}
	switch l.kind {
	case "in":
		p.token(":")
		l.spots = append(l.spots, p.token(l.words[1]))
	case "repeat":
		l.spots = append(l.spots, p.token(l.words[1]))
	case "def":
		p.token("(")
		for i, word := range l.words[1:] {
			if i > 0 {
				p.token(",")
			}
			l.spots = append(l.spots, p.token(word))
		}
		p.token(")")
	}
	if l.of != nil {
		p.token("=")
		p.write(l.of, 1)
	}
	p.token(";")
}

// written answers the text of these statements, in which they now know their offsets.
func written(s *source, lines []*line) string {
	p := &pen{s: s}
	for _, l := range lines {
		if l.kind == "out" {
			l.place = p.token("out")
			p.write(l.of, 1)
			p.token(";")
			continue
		}
		p.writeLine(l)
	}
	return string(p.text)
}

// stopped is what ends the reference.
type stopped struct {
	code int
	at   int
}

// reference carries out lines by the text of 3.3, one function that calls itself.
type reference struct {
	g     impl.Graph
	names map[string]int
	defs  map[string]*line
	calls int
}

// wantSource answers what the lines, of which this is the text, come to.
func wantSource(text string, lines []*line) (g impl.Graph, code, at int) {
	if len(text) > 4000 {
		return impl.Graph{}, impl.CodeLimit, 0
	}
	if long := wantLongNumber(text); long >= 0 {
		return impl.Graph{}, impl.CodeLimit, long
	}
	r := &reference{names: map[string]int{}, defs: map[string]*line{}}
	defer func() {
		if end, ok := recover().(stopped); ok {
			g, code, at = impl.Graph{}, end.code, end.at
		}
	}()
	for _, l := range lines {
		r.carryOut(l)
	}
	return r.g, impl.CodeOK, 0
}

func ensure(holds bool, code, at int) {
	if !holds {
		panic(stopped{code, at})
	}
}

func (r *reference) put(v impl.Val, place int) int {
	r.g.Vals = append(r.g.Vals, v)
	ensure(!beyondLimits(r.g), impl.CodeLimit, place)
	return len(r.g.Vals) - 1
}

func (r *reference) isNew(name string) bool {
	_, value := r.names[name]
	return !value && r.defs[name] == nil
}

func asInt(text string) int {
	n, _ := strconv.Atoi(text)
	return n
}

func (r *reference) carryOut(l *line) {
	switch l.kind {
	case "in":
		n := asInt(l.words[1])
		ensure(r.isNew(l.words[0]), impl.CodeName, l.spots[0])
		ensure(n >= 1 && n <= 1000, impl.CodeShape, l.spots[1])
		ensure(len(r.g.Ins) < 20, impl.CodeLimit, l.spots[0])
		r.g.Ins = append(r.g.Ins, n)
		r.names[l.words[0]] = r.put(val(impl.OpInput, n, len(r.g.Ins)-1, 0, 0), l.spots[0])
	case "let":
		ensure(r.isNew(l.words[0]), impl.CodeName, l.spots[0])
		r.names[l.words[0]] = r.trace(l.of, nil)
	case "repeat":
		_, value := r.names[l.words[1]]
		ensure(value, impl.CodeName, l.spots[1])
		ensure(asInt(l.words[0]) <= 100, impl.CodeLimit, l.spots[0])
		for range asInt(l.words[0]) {
			r.names[l.words[1]] = r.trace(l.of, nil)
		}
	case "def":
		ensure(r.isNew(l.words[0]), impl.CodeName, l.spots[0])
		for i := 2; i < len(l.words); i++ {
			ensure(!slices.Contains(l.words[1:i], l.words[i]), impl.CodeName, l.spots[i])
		}
		r.defs[l.words[0]] = l
	case "out":
		ensure(len(r.g.Outs) < 50, impl.CodeLimit, l.place)
		r.g.Outs = append(r.g.Outs, r.trace(l.of, nil))
	}
}

func (r *reference) look(name string, params map[string]int, at int) int {
	if i, found := params[name]; found {
		return i
	}
	i, found := r.names[name]
	ensure(found, impl.CodeName, at)
	return i
}

func (r *reference) len(i int) int {
	return r.g.Vals[i].Len
}

// fit is the fitting of 3.3, with the values in the order of the fields.
func (r *reference) fit(op, place int, of ...int) int {
	n := 0
	for _, i := range of {
		n = max(n, r.len(i))
	}
	for _, i := range of {
		ensure(r.len(i) == n || r.len(i) == 1, impl.CodeShape, place)
	}
	fields := [3]int{}
	for k, i := range of {
		if r.len(i) < n {
			i = r.put(val(impl.OpFill, n, i, 0, 0), place)
		}
		fields[k] = i
	}
	return r.put(val(op, n, fields[0], fields[1], fields[2]), place)
}

func (r *reference) trace(e *tree, params map[string]int) int {
	switch e.kind {
	case "number":
		k, _ := wantNumber(e.words[0])
		return r.put(constant(1, k), e.place)
	case "name":
		return r.look(e.words[0], params, e.place)
	case "call":
		return r.call(e, params)
	case "grad", "jvp":
		return r.derivative(e, params)
	}
	of := []int{}
	for _, o := range e.of {
		of = append(of, r.trace(o, params))
	}
	switch e.kind {
	case "neg":
		return r.put(val(impl.OpNeg, r.len(of[0]), of[0], 0, 0), e.place)
	case "exp":
		return r.put(val(impl.OpExp, r.len(of[0]), of[0], 0, 0), e.place)
	case "sum":
		return r.put(val(impl.OpSum, 1, of[0], 0, 0), e.place)
	case "dot":
		product := r.fit(impl.OpMul, e.place, of...)
		return r.put(val(impl.OpSum, 1, product, 0, 0), e.place)
	case "fill", "pick", "put":
		return r.shaped(e, of[0])
	}
	ops := map[string]int{"+": impl.OpAdd, "-": impl.OpSub, "*": impl.OpMul, "/": impl.OpDiv, "max": impl.OpMax, "sel": impl.OpSel}
	return r.fit(ops[e.kind], e.place, of...)
}

func (r *reference) shaped(e *tree, i int) int {
	isLength := func(n int) bool { return n >= 1 && n <= 1000 }
	k := asInt(e.words[0])
	switch e.kind {
	case "fill":
		ensure(r.len(i) == 1, impl.CodeShape, e.place)
		ensure(isLength(k), impl.CodeShape, e.spots[0])
		return r.put(val(impl.OpFill, k, i, 0, 0), e.place)
	case "pick":
		ensure(k < r.len(i), impl.CodeShape, e.spots[0])
		return r.put(val(impl.OpPick, 1, i, 0, k), e.place)
	}
	n := asInt(e.words[1])
	ensure(r.len(i) == 1, impl.CodeShape, e.place)
	ensure(isLength(n), impl.CodeShape, e.spots[1])
	ensure(k < n, impl.CodeShape, e.spots[0])
	return r.put(val(impl.OpPut, n, i, 0, k), e.place)
}

func (r *reference) derivative(e *tree, params map[string]int) int {
	x := r.look(e.words[0], params, e.spots[0])
	s := r.trace(e.of[0], params)
	var g impl.Graph
	var at, code int
	if e.kind == "grad" {
		g, at, code = wantGrad(r.g, s, x)
	} else {
		t := r.trace(e.of[1], params)
		if r.len(t) == 1 && r.len(x) != 1 {
			t = r.put(val(impl.OpFill, r.len(x), t, 0, 0), e.place)
		}
		g, at, code = wantJvp(r.g, s, x, t)
	}
	ensure(code == impl.CodeOK, code, e.place)
	r.g = g
	return at
}

func (r *reference) call(e *tree, params map[string]int) int {
	def := r.defs[e.words[0]]
	ensure(def != nil && len(def.words)-1 == len(e.of), impl.CodeName, e.place)
	inside := map[string]int{}
	for i, o := range e.of {
		inside[def.words[1+i]] = r.trace(o, params)
	}
	ensure(r.calls < 500, impl.CodeLimit, e.place)
	r.calls++
	return r.trace(def.of, inside)
}

// plain tells lines without their gaps, for a test's message.
func plain(text string) string {
	tokens, _ := wantTokens(text)
	words := []string{}
	for _, k := range tokens {
		words = append(words, k.text)
	}
	return strings.Join(words, " ")
}
