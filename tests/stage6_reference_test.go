package tests

import (
	"encoding/binary"
	"fmt"
	"math"
	"regexp"
	"slices"
	"strconv"
	"strings"

	"loop.example/s08086/impl"
)

const nanBits = 0x7ff8000000000000

// rawBytes writes any code as 6.1 says, whether it is taken or not, with the bits that K has.
func rawBytes(c impl.Code) []byte {
	b := []byte("GL")
	counts := func(numbers ...int) {
		for _, n := range numbers {
			b = binary.LittleEndian.AppendUint16(b, uint16(n))
		}
	}
	counts(len(c.Ins))
	counts(c.Ins...)
	counts(len(c.Steps))
	for _, s := range c.Steps {
		b = append(b, byte(s.Op))
		counts(s.Len, s.N, s.Dst, s.A, s.B, s.C)
		if s.Op == 1 {
			b = binary.LittleEndian.AppendUint64(b, math.Float64bits(s.K))
		}
	}
	counts(len(c.Outs))
	for _, o := range c.Outs {
		counts(o.Off, o.Len)
	}
	counts(c.Peak)
	return b
}

// plainCode answers the code that is loaded for c: with no K but that of OpConst, and one NaN.
func plainCode(c impl.Code) impl.Code {
	c = copyCode(c)
	for i := range c.Steps {
		if s := &c.Steps[i]; s.Op != 1 {
			s.K = 0
		} else if s.K != s.K {
			s.K = math.Float64frombits(nanBits)
		}
	}
	return c
}

// wantSave is SaveCode by the text of 6.1.
func wantSave(c impl.Code) []byte {
	if !wantVerify(c) {
		return nil
	}
	return rawBytes(plainCode(c))
}

// wantLoad is LoadCode by the text of 6.1: it stops at the first byte that no saved code has at its place.
func wantLoad(b []byte) (c impl.Code, code int) {
	defer func() {
		if recover() != nil {
			c, code = impl.Code{}, impl.CodeBad
		}
	}()
	if string(b[:2]) != "GL" {
		panic("no saved code")
	}
	at := 2
	count := func() int {
		at += 2
		return int(binary.LittleEndian.Uint16(b[at-2:]))
	}
	for range count() {
		c.Ins = append(c.Ins, count())
	}
	for range count() {
		s := impl.Step{Op: int(b[at])}
		at++
		for _, field := range stepFields(&s)[1:] {
			*field = count()
		}
		if s.Op == 1 {
			bits := binary.LittleEndian.Uint64(b[at:])
			at += 8
			s.K = math.Float64frombits(bits)
			if s.K != s.K && bits != nanBits {
				panic("another NaN")
			}
		}
		c.Steps = append(c.Steps, s)
	}
	for range count() {
		off := count()
		c.Outs = append(c.Outs, impl.Span{Off: off, Len: count()})
	}
	c.Peak = count()
	if at != len(b) || !wantVerify(c) {
		panic("too many bytes, or a code that is refused")
	}
	return c, impl.CodeOK
}

// wantText is GraphText by the text of 6.2.
func wantText(g impl.Graph) string {
	if !wantValid(g) {
		return ""
	}
	words := strings.Fields("input const add sub mul div neg max sel sum fill pick put exp")
	text := &strings.Builder{}
	for _, n := range g.Ins {
		fmt.Fprintf(text, "in %d\n", n)
	}
	for i, v := range g.Vals {
		fmt.Fprintf(text, "v%d = %s", i, words[v.Op])
		switch v.Op {
		case 0:
			fmt.Fprintf(text, " %d", v.A)
		case 1:
			bits := math.Float64bits(v.K)
			if v.K != v.K {
				bits = nanBits
			}
			fmt.Fprintf(text, " %016x", bits)
		case 2, 3, 4, 5, 7:
			fmt.Fprintf(text, " v%d v%d", v.A, v.B)
		case 6, 9, 10, 13:
			fmt.Fprintf(text, " v%d", v.A)
		case 8:
			fmt.Fprintf(text, " v%d v%d v%d", v.A, v.B, v.C)
		case 11, 12:
			fmt.Fprintf(text, " v%d @%d", v.A, v.C)
		}
		fmt.Fprintf(text, " : %d\n", v.Len)
	}
	for _, o := range g.Outs {
		fmt.Fprintf(text, "out v%d\n", o)
	}
	return text.String()
}

// three is what a code was made of.
type three struct {
	source string
	passes string
	budget int
}

func (k three) list() []int {
	out := []int{}
	for _, digit := range k.passes {
		out = append(out, int(digit-'0'))
	}
	return out
}

// wantSession is RunSession by the text of 6.3. It keeps all that ever came into the cache, and looks at the last four.
func wantSession(text string) []impl.Reply {
	commands := strings.Split(text, "\n")
	if last := len(commands) - 1; commands[last] == "" {
		commands = commands[:last]
	}
	if len(commands) > 200 {
		return []impl.Reply{{Result: impl.Result{Code: impl.CodeLimit}}}
	}
	replies := []impl.Reply{}
	now, came := three{budget: 50000}, []three{}
	for _, command := range commands {
		inputs, asSaid := wantInputs(command)
		switch {
		case strings.HasPrefix(command, "P"):
			now.source = command[1:]
		case passesForm.MatchString(command):
			now.passes = command[1:]
		case budgetForm.MatchString(command):
			now.budget, _ = strconv.Atoi(command[1:])
		case asSaid:
			hit := slices.Contains(came[max(0, len(came)-4):], now)
			if _, code, _ := impl.Compile([]byte(now.source), now.list(), now.budget); code == impl.CodeOK && !hit {
				came = append(came, now)
			}
			replies = append(replies, impl.Reply{Result: impl.Solve([]byte(now.source), now.list(), now.budget, inputs), Hit: hit})
		default:
			replies = append(replies, impl.Reply{Result: impl.Result{Code: impl.CodeSyntax}})
		}
	}
	return replies
}

// The forms of commands.
var (
	passesForm = regexp.MustCompile(`^O[0-9]*$`)
	budgetForm = regexp.MustCompile(`^B[0-9]{1,6}$`)
	spacesForm = regexp.MustCompile(`^X *$`)
	inputsForm = regexp.MustCompile(strings.ReplaceAll(`^X *N( +N)* *(; *N( +N)* *)*$`, "N", `-?[0-9]+(\.[0-9]+)?`))
)

// wantInputs answers the inputs of an X, and whether it is one and as said.
func wantInputs(command string) ([][]float64, bool) {
	if spacesForm.MatchString(command) {
		return nil, true
	}
	if !inputsForm.MatchString(command) {
		return nil, false
	}
	inputs := [][]float64{}
	for _, part := range strings.Split(command[1:], ";") {
		input := []float64{}
		for _, word := range strings.Fields(part) {
			f, code := wantNumber(strings.TrimPrefix(word, "-"))
			if code != impl.CodeOK {
				return nil, false
			}
			if word[0] == '-' {
				f = math.Copysign(f, -1)
			}
			input = append(input, f)
		}
		inputs = append(inputs, input)
	}
	return inputs, true
}
