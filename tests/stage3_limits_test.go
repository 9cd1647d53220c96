package tests

import (
	"regexp"
	"strconv"
	"strings"
	"testing"

	"loop.example/s08086/impl"
)

// valuesText is a source of exactly n values, each with one element.
func valuesText(n int) string {
	if n == 0 {
		return ""
	}
	text := "let v_=0;" + strings.Repeat("repeat 100v_=-v_;", (n-1)/100)
	return text + "repeat " + strconv.Itoa((n-1)%100) + "v_=-v_;"
}

// elementsText is a source of exactly n elements, for an n from 49003 to 50000, of few values.
func elementsText(n int) string {
	return "let w_=fill(0,1000);repeat 48w_=-w_;let u_=fill(0," + strconv.Itoa(n-49002) + ");"
}

func TestFillingTexts(t *testing.T) {
	for _, n := range []int{0, 1, 2, 100, 101, 102, 1999, 2000} {
		if g, code, _ := parsed(t, valuesText(n)); code != impl.CodeOK || len(g.Vals) != n {
			t.Errorf("%d values: code %d, %d", n, code, len(g.Vals))
		}
	}
	for _, n := range []int{49003, 49500, 49999, 50000} {
		if g, code, _ := parsed(t, elementsText(n)); code != impl.CodeOK || elementsIn(g) != n {
			t.Errorf("%d elements: code %d, %d", n, code, elementsIn(g))
		}
	}
	if _, code, _ := parsed(t, valuesText(2001)); code != impl.CodeLimit {
		t.Errorf("2001 values: code %d", code)
	}
	if _, code, _ := parsed(t, elementsText(50001)); code != impl.CodeLimit {
		t.Errorf("50001 elements: code %d", code)
	}
}

func elementsIn(g impl.Graph) int {
	n := 0
	for _, v := range g.Vals {
		n += v.Len
	}
	return n
}

// placed is a value that a statement puts behind: the offset of its place there, and its length.
type placed struct {
	at     int
	length int
}

// withoutPlaces takes the marks out of a statement. A mark <i:n j:m> stands ahead of the place of the values that are
// put behind as number i with length n and as number j with length m.
func withoutPlaces(t *testing.T, marked string) (string, []placed) {
	t.Helper()
	mark := regexp.MustCompile(`<([0-9: ]*)>`)
	found := map[int]placed{}
	for {
		at := mark.FindStringSubmatchIndex(marked)
		if at == nil {
			break
		}
		for _, pair := range strings.Fields(marked[at[2]:at[3]]) {
			number, length, _ := strings.Cut(pair, ":")
			i, _ := strconv.Atoi(number)
			n, _ := strconv.Atoi(length)
			found[i] = placed{at[0], n}
		}
		marked = marked[:at[0]] + marked[at[1]:]
	}
	out := []placed{}
	for i := range len(found) {
		if found[i].length == 0 {
			t.Fatalf("%s has no value %d", marked, i)
		}
		out = append(out, found[i])
	}
	return marked, out
}

// placedStatements are for a source with x of length 3 and z of length 1, in this order.
func placedStatements() []string {
	return []string{
		"in <0:3>n : 3 ;", "in <0:1>n : 1 ;", "let y = <0:1>5 ;", "let y = z ;", "out x ;", "repeat 2 z = <0:1 1:1>-z ;", "repeat 2 x = x <1:3 2:3 4:3 5:3>+ <0:1 3:1>1 ;",
		"out <1:1>-<0:1>-z ;", "out <0:3>-x ;", "out x <1:3 2:3>+ <0:1>5 ;", "out x <1:3 2:3>- <0:1>5 ;", "out x <1:3 2:3>* <0:1>5 ;", "out x <1:3 2:3>/ <0:1>5 ;",
		"out <0:1>5 <1:3 2:3>- x ;", "out x <0:3>* x ;", "out z <0:1>/ z ;", "out x <0:3>* x <1:3 2:3>+ z ;", "out <0:3>exp(x) ;", "out <0:1>sum(x) ;",
		"out <0:3 1:3>max(x, z) ;", "out <0:3 1:3>max(z, x) ;", "out <0:1>max(z, z) ;", "out <0:3 1:1>dot(x, x) ;", "out <1:3 2:3 3:1>dot(x, <0:1>2) ;",
		"out <0:3 1:3 2:3>sel(z, x, z) ;", "out <2:3 3:3 4:3>sel(<0:1>1, x, <1:1>2) ;", "out <0:3 1:3 2:3>sel(z, z, x) ;", "out <0:3>sel(x, x, x) ;",
		"out <1:7>fill(<0:1>2, 7) ;", "out <0:1>fill(z, 1) ;", "out <0:1>pick(x, 1) ;", "out <0:9>put(z, 1, 9) ;", "out <1:1>pick(<0:9>put(z, 1, 9), 2) ;",
		"out <1:1 2:3>grad(<0:1>sum(x), x) ;", "out <0:3>grad(z, x) ;", "out <0:1>grad(z, z) ;", "out <1:1 2:1 3:1 4:1>grad(z <0:1>* z, z) ;",
		"out <5:1 6:1 7:1 8:1>grad(<1:1 2:1 3:1 4:1>grad(z <0:1>* z, z), z) ;",
		"out <2:3 3:3>jvp(<0:3>-x, x, <1:1>2) ;", "out <1:3>jvp(<0:3>-x, x, x) ;", "out <0:1>jvp(z, x, x) ;", "out jvp(x, x, x) ;", "out <0:3>jvp(x, x, z) ;", "out <0:3 1:1>jvp(z, x, z) ;",
		"def f(p) = p <1:1>+ <0:1>1 ; out f(z) ;", "def f(p) = <1:1>-p ; out f(<0:1>5) ;", "def f() = <0:1>5 ; out f() <1:3 2:3>+ x ;", "def f(p) = p ; out f(f(z)) ;",
		"out <0:3>-x ; out <1:1>4 ; in <2:5>n : 5 ;",
	}
}

const placedSetup = "in x:3;in z:1;"

// checkRoom looks at a source whose first part leaves room for so many values or elements.
func checkRoom(t *testing.T, first, statement string, puts []placed, room int, size func(p placed) int) {
	t.Helper()
	for _, p := range puts {
		room -= size(p)
		if room < 0 {
			checkCode(t, first+statement, impl.CodeLimit, len(first)+p.at)
			return
		}
	}
	g, code, _ := parsed(t, first+statement)
	if code != impl.CodeOK {
		t.Errorf("%s with room for %d more: code %d", statement, room, code)
	}
	if room == 0 && len(g.Vals) != impl.MaxVals && elementsIn(g) != impl.MaxCells {
		t.Errorf("%s: %d values, %d elements", statement, len(g.Vals), elementsIn(g))
	}
}

// P7: MaxVals met exactly, and broken by each of the values that a statement puts behind.
func TestSourceAtMaxVals(t *testing.T) {
	for _, marked := range placedStatements() {
		statement, puts := withoutPlaces(t, marked)
		for room := range len(puts) + 2 {
			first := placedSetup + valuesText(impl.MaxVals-2-room)
			checkRoom(t, first, statement, puts, room, func(placed) int { return 1 })
		}
	}
}

// P7: MaxCells met exactly, and broken by each of the values that a statement puts behind.
func TestSourceAtMaxCells(t *testing.T) {
	for _, marked := range placedStatements() {
		statement, puts := withoutPlaces(t, marked)
		most := 1
		for _, p := range puts {
			most += p.length
		}
		for room := range most + 1 {
			first := placedSetup + elementsText(impl.MaxCells-4-room)
			checkRoom(t, first, statement, puts, room, func(p placed) int { return p.length })
		}
	}
}

// P7: faults that are looked for ahead of a value are told ahead of its limit, and those behind it are not.
func TestSourceLimitsAndOtherFaults(t *testing.T) {
	for _, full := range []string{placedSetup + valuesText(impl.MaxVals-2), placedSetup + elementsText(impl.MaxCells-4)} {
		checkFaults(t, impl.CodeName, full+"in |x : 1 ;", full+"let |x = 1 ;", full+"out |w + 1 ;", full+"out grad(1, |w) ;", full+"out jvp(1, |w, 1) ;", full+"out |f(1) ;", full+"def f(p, |p) = 1 ;")
		checkFaults(t, impl.CodeShape, full+"in n : |0 ;", full+"out |fill(x, 2) ;", full+"out fill(z, |0) ;", full+"out pick(x, |3) ;", full+"out put(z, |3, 3) ;", full+"out |grad(x, x) ;", full+"out |jvp(x, z, x) ;")
		checkFaults(t, impl.CodeLimit, full+"in |n : 1 ;", full+"out |1 + w ;", full+"out |-z + w ;", full+"out |1 + f(1) ;", full+"out fill(|1, 0) ;", full+"out put(|1, 9, 0) ;",
			full+"out jvp(|1, z, w) ;", full+"def f(p) = w ; out f(|1) ;", full+"let z1 = |1 ; let z = 1 ;", full+"out pick(|fill(z, 2), 2) ;", full+"out grad(|-x, x) ;")
		checkCode(t, full+"out x ; let y = z ; def f(p) = -p ; repeat 0 z = 1 ;", impl.CodeOK, 0)
	}
}

// P7: MaxIns and MaxOuts.
func TestSourceAtMaxInsAndMaxOuts(t *testing.T) {
	ins := ""
	for i := range impl.MaxIns {
		ins += "in n" + strconv.Itoa(i) + ":1;"
	}
	checkCode(t, ins, impl.CodeOK, 0)
	checkFaults(t, impl.CodeLimit, ins+"in |y : 1 ;", ins+"let a = 1 ; in |y : 1 ; in z : 0 ;")
	outs := "in x : 2 ;" + strings.Repeat("out x;", impl.MaxOuts)
	checkCode(t, outs, impl.CodeOK, 0)
	checkFaults(t, impl.CodeLimit, outs+"|out x ;", outs+"|out 1 ;")
	checkCode(t, outs+"let y = 1 ; in z : 1 ; repeat 3 y = y ;", impl.CodeOK, 0)
}

// P7: MaxRepeat.
func TestSourceAtMaxRepeat(t *testing.T) {
	for _, n := range []int{0, 1, 2, 99, 100} {
		if g, code, _ := parsed(t, "in x : 1 ; repeat "+strconv.Itoa(n)+" x = -x ; out x ;"); code != impl.CodeOK || len(g.Vals) != n+1 || g.Outs[0] != n {
			t.Errorf("%d times: code %d, %d values", n, code, len(g.Vals))
		}
	}
	checkFaults(t, impl.CodeLimit, "in x : 1 ; repeat |101 x = x ;", "in x : 1 ; repeat |1000 x = x ;", "in x : 1 ; repeat |0101 x = x ;")
}

// callsText is a source that begins exactly n calls and puts one value behind.
func callsText(n int) string {
	return "def f(p)=p;let z=1;" + strings.Repeat("repeat 100z=f(z);", n/100) + "repeat " + strconv.Itoa(n%100) + "z=f(z);"
}

// P7: MaxCalls, with the arguments traced ahead of it.
func TestSourceAtMaxCalls(t *testing.T) {
	checkCode(t, callsText(impl.MaxCalls), impl.CodeOK, 0)
	checkCode(t, callsText(impl.MaxCalls)+"let y = z ; def g() = f(1) ; repeat 0 z = f(z) ;", impl.CodeOK, 0)
	full, less := callsText(impl.MaxCalls), callsText(impl.MaxCalls-1)
	checkFaults(t, impl.CodeLimit, full+"out |f(1) ;", full+"out |f(z) ;", full+"out f(|f(z)) ;", full+"def g() = w ; out |g() ;", less+"out |f(f(z)) ;", less+"out f(z) + |f(z) ;",
		less+"def g() = |f(z) ; out g() ;", less+"def g(p) = w ; out |g(f(1)) ;", less+"def g(p, q) = w ; out g(f(1), |f(2)) ;", less+"def g() = |g() ; out g() ;")
	checkFaults(t, impl.CodeName, full+"out f(|w) ;", full+"out |f() ;", full+"out |h(1) ;", full+"out f(|h(1)) ;", less+"def g() = |w ; out g() ;", full+"out |w + f(1) ;")
	checkFaults(t, impl.CodeShape, full+"out f(fill(1, |0)) ;", less+"out f(z) + pick(z, |1) ;")
	checkCode(t, less+"out f(z) ;", impl.CodeOK, 0)
	// a call that is begun counts though its value is not used
	checkFaults(t, impl.CodeLimit, less+"def g(p) = 1 ; out g(1) ; out |g(2) ;")
}

// P7: functions that call themselves or one another never come to an end of their own.
func TestSourceEndlessCalls(t *testing.T) {
	checkFaults(t, impl.CodeLimit,
		"def h(p) = |h(p) ; out h(1) ;", "def h() = |h() ; out h() ;", "def h(p) = h(|h(p)) ; out h(1) ;", "def h(p) = |h(p) + w ; out h(1) ;",
		"def a(p) = b(p) ; def b(p) = |a(p) ; out a(1) ;", "def a(p) = |b(p) ; def b(p) = a(p) ; out b(1) ;", "def a() = b() ; def b() = |c() ; def c() = a() ; out a() ;",
		"def h(p) = grad(|h(p), p) ; out h(1) ;", "def h(p) = jvp(p, p, |h(p)) ; out h(1) ;", "let x = 1 ; def h() = |h() ; repeat 3 x = h() ;",
		"def h(p) = |h(-p) ; out h(1) ;", "def h(p) = fill(|h(p), 0) ; out h(1) ;", "def h(p) = sel(|h(p), w, v) ; out h(1) ;")
	// these break MaxVals or MaxCells ahead of MaxCalls
	checkFaults(t, impl.CodeLimit, "def h(p) = h(p * 2 |+ 3 * p) ; out h(1) ;", "def h(p) = h(|-p) ; out h(fill(1, 1000)) ;", "def h(p) = h(|-----p) ; out h(1) ;")
	checkFaults(t, impl.CodeName, "def h(p) = |w + h(p) ; out h(1) ;", "def h(p) = |h() ; out h(1) ;", "def h(p) = h(|w) ; out h(1) ;")
	checkFaults(t, impl.CodeShape, "def h(p) = h(fill(p, |0)) ; out h(1) ;", "def h(p) = h(|fill(p, 2)) ; out h(1) ;", "def h(p) = pick(p, |1) + h(p) ; out h(1) ;")
}

// nested writes the heads one inside the other, n times, around the middle.
func nested(head, middle, tail string, n int) string {
	return strings.Repeat(head, n) + middle + strings.Repeat(tail, n)
}

// P7: as many signs and brackets as a source can hold.
func TestSourceDeepNesting(t *testing.T) {
	for _, n := range []int{1, 10, 1000, 1996} {
		checkGraphs(t, "out "+nested("(", "1", ")", n)+";", "ins; const 1 : 1; outs 0")
		checkCode(t, "out "+nested("(", "1", ")", n), impl.CodeSyntax, 5+2*n)
		checkCode(t, "out "+nested("(", "", ")", n)+";", impl.CodeSyntax, 4+n)
		checkCode(t, "out "+nested("(", "w", ")", n)+";", impl.CodeName, 4+n)
	}
	checkCode(t, "out "+strings.Repeat("(", 3996), impl.CodeSyntax, 4000)
	checkCode(t, "out "+strings.Repeat("-", 3996), impl.CodeSyntax, 4000)
	checkCode(t, "out "+strings.Repeat("(-", 1998), impl.CodeSyntax, 4000)
	checkCode(t, "out "+strings.Repeat("f(", 1998), impl.CodeSyntax, 4000)
	checkCode(t, "out "+strings.Repeat("exp(", 999), impl.CodeSyntax, 4000)
	checkCode(t, "out "+strings.Repeat(")", 3996), impl.CodeSyntax, 4)
	checkCode(t, "out "+strings.Repeat("1+", 1998), impl.CodeSyntax, 4000)
	// a value of the number, then one for each sign, the last sign first
	checkCode(t, "out "+strings.Repeat("-", 1999)+"1;", impl.CodeOK, 0)
	for _, n := range []int{2000, 2001, 3994} {
		checkCode(t, "out "+strings.Repeat("-", n)+"1;", impl.CodeLimit, 4+n-2000)
	}
	checkCode(t, "out "+nested("-(", "1", ")", 1331)+";", impl.CodeOK, 0)
	checkCode(t, "out "+nested("exp(", "1", ")", 798)+";", impl.CodeOK, 0)
	checkCode(t, "out "+nested("1+(", "1", ")", 998)+";", impl.CodeOK, 0)
	checkCode(t, "out 1"+strings.Repeat("+1", 999)+";", impl.CodeOK, 0)
	checkCode(t, "out 1"+strings.Repeat("*1", 1000)+";", impl.CodeLimit, 5+2*999)
	checkCode(t, "let x=1;out "+nested("max(x,", "x", ")", 500)+";", impl.CodeOK, 0)
	checkCode(t, "let x=1;out "+nested("jvp(x,x,", "x", ")", 440)+";", impl.CodeOK, 0)
	checkCode(t, "let x=1;out "+nested("jvp(", "x", ",x,x)", 440)+";", impl.CodeOK, 0)
	checkCode(t, "let x=1;out "+nested("grad(", "x", ",x)", 490)+";", impl.CodeOK, 0)
	identity := "def f(p)=p;out "
	checkGraphs(t, identity+nested("f(", "1", ")", 500)+";", "ins; const 1 : 1; outs 0")
	checkCode(t, identity+nested("f(", "1", ")", 501)+";", impl.CodeLimit, len(identity))
	checkCode(t, identity+nested("f(", "1", ")", 1300)+";", impl.CodeLimit, len(identity)+2*799)
}

// P7: functions that call themselves out of deep bodies: MaxCalls times as deep as the source.
func TestSourceDeepCalls(t *testing.T) {
	const head = "def h(p)="
	checkCode(t, head+strings.Repeat("-", 3970)+"h(p);out h(1);", impl.CodeLimit, len(head)+3970)
	checkCode(t, head+nested("(", "h(p)", ")", 1980)+";out h(1);", impl.CodeLimit, len(head)+1980)
	checkCode(t, head+nested("-(", "h(p)", ")", 1310)+";out h(1);", impl.CodeLimit, len(head)+2*1310)
	checkCode(t, head+"h(p)"+strings.Repeat("+p", 1980)+";out h(1);", impl.CodeLimit, len(head))
	checkCode(t, head+nested("p+(", "h(p)", ")", 980)+";out h(1);", impl.CodeLimit, len(head)+3*980)
	checkCode(t, head+nested("h(", "p", ")", 1310)+";out h(1);", impl.CodeLimit, len(head)+2*1309)
	checkCode(t, head+nested("sel(p,p,", "h(p)", ")", 430)+";out h(1);", impl.CodeLimit, len(head)+8*430)
	checkCode(t, head+strings.Repeat("-", 3970)+"w(p);out h(1);", impl.CodeName, len(head)+3970)
}
