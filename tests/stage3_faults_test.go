package tests

import (
	"strings"
	"testing"

	"loop.example/s08086/impl"
)

// P7: names that are not known, and names that are given twice.
func TestSourceNames(t *testing.T) {
	checkFaults(t, impl.CodeName,
		"out |w ;", "let x = |x ;", "let x = 1 ; let |x = 2 ;", "in x : 1 ; in |x : 1 ;", "let x = 1 ; in |x : 1 ;", "in x : 1 ; let |x = 1 ;",
		"def f() = 1 ; def |f() = 1 ;", "def f() = 1 ; let |f = 1 ;", "def f() = 1 ; in |f : 1 ;", "let f = 1 ; def |f() = 1 ;", "in f : 1 ; def |f(f) = 1 ;",
		"repeat 1 |x = 1 ;", "def f() = 1 ; repeat 1 |f = 1 ;", "repeat 0 |x = 1 ;", "let x = 1 ; repeat 1 x = |y ;", "def f(p) = p ; out f(1) ; repeat 1 |p = 1 ;",
		"def f(p, |p) = p ;", "def f(p, q, |p) = p ;", "def f(p, q, |q, p) = p ;", "def f(p, |p, p) = p ;", "def f(a, b, c, d, |b) = 1 ;", "def f(f, |f) = 1 ;",
		"out 1 + |w ;", "out |w + v ;", "out -|w ;", "out exp(|w) ;", "out max(|v, w) ;", "out sel(1, |v, w) ;", "out fill(|w, 0) ;", "out (|w) ;",
	)
}

// P7: calls of what is no function, or has another number of parameters.
func TestSourceCalls(t *testing.T) {
	checkFaults(t, impl.CodeName,
		"out |f() ;", "out |f(1) ;", "let f = 1 ; out |f(1) ;", "let f = 1 ; out |f() ;", "def f() = 1 ; out |f ;", "def f(p) = p ; out |f() ;",
		"def f(p) = p ; out |f(1, 2) ;", "def f() = 1 ; out |f(1) ;", "def f(p, q) = p ; out |f(1) ;", "def f(p, q) = p ; out |f(1, 2, 3) ;",
		"out |f(1) ; def f(p) = p ;", "def f(p) = |g(p) ; out f(1) ; def g(p) = p ;", "def f() = |w ; out f() ;", "def f(p) = |q ; def g(q) = f(q) ; out g(1) ;",
		"def f(p) = p ; out f(1) + |p ;", "def f(p) = p ; def g(q) = |p + f(q) ; out g(1) ;", "def f(p) = |p(1) ; out f(1) ;", "def f(g) = |g(1) ; out f(1) ;",
		"let x = 1 ; def f(x) = |x(1) ; out f(1) ;", "def f(p) = |f ; out f(1) ;",
		// the function is looked for ahead of its arguments
		"out |f(w) ;", "def f() = 1 ; out |f(w) ;", "def f(p) = 1 ; out f(|w) ;", "def f(p) = 1 ; out |f(w, 1) ;", "def f(p, q) = v ; out f(1, |w) ;",
		"def f(p, q) = v ; out f(|w, u) ;", "def f(p) = v ; out f(|g(w)) ;",
		// what the first call does is done ahead of the second
		"def f(p) = |w ; def g(p) = v ; out f(1) + g(2) ;", "def f(p) = w ; out |g(f(1)) ;",
	)
}

// P7: lengths, inputs and ints of every statement and key word that do not fit.
func TestSourceShapes(t *testing.T) {
	const two = "in x : 2 ; in y : 3 ; in z : 1 ; "
	texts := []string{
		"in w : |0 ;", "in w : |1001 ;", "in w : |999999999999999 ;", "in w : |000 ;",
		"out x |+ y ;", "out x |- y ;", "out x |* y ;", "out x |/ y ;", "out |max(x, y) ;", "out |dot(y, x) ;",
		"out |sel(x, y, z) ;", "out |sel(x, z, y) ;", "out |sel(z, x, y) ;", "out |sel(x, y, y) ;", "out |sel(x, x, y) ;", "out |sel(x, y, x) ;", "out |sel(y, z, x) ;",
		"out |fill(x, 2) ;", "out |fill(x, 3) ;", "out fill(z, |0) ;", "out fill(z, |1001) ;", "out fill(1, |999999999999999) ;",
		"out pick(x, |2) ;", "out pick(z, |1) ;", "out pick(y, |3) ;", "out pick(y, |1000) ;", "out pick(y, |999999999999999) ;",
		"out |put(x, 0, 2) ;", "out put(z, 0, |0) ;", "out put(z, 0, |1001) ;", "out put(z, |2, 2) ;", "out put(z, |1, 1) ;", "out put(z, |1000, 1000) ;",
		"out put(z, 0, |999999999999999) ;", "out put(z, |999999999999999, 1000) ;",
		"out |grad(x, x) ;", "out |grad(x, z) ;", "out |grad(y + 1, y) ;", "out |jvp(z, x, y) ;", "out |jvp(z, z, x) ;", "out |jvp(x, y, x) ;", "out |jvp(z, z, fill(1, 2)) ;",
		"out 1 + (2 * (x |+ y)) ;", "out x + 1 |+ y ;", "out x + (1 + y |+ x) ;", "def f(p) = p |+ y ; out f(z) + f(x) ;", "repeat 2 z = |put(z, 1, 2) ;",
	}
	for _, text := range texts {
		checkFaults(t, impl.CodeShape, two+text)
	}
}

// P7: of two faults in one statement the one is told whose check stands first.
func TestSourceTwoFaultsInOneStatement(t *testing.T) {
	ins := ""
	for i := range impl.MaxIns {
		ins += "in n" + string(rune('a'+i)) + " : 1 ; "
	}
	outs := "in x : 2 ; " + strings.Repeat("out x ; ", impl.MaxOuts)
	// in: the name, then k, then MaxIns
	checkFaults(t, impl.CodeName, "let x = 1 ; in |x : 0 ;", ins+"in |na : 1 ;", ins+"in |na : 0 ;")
	checkFaults(t, impl.CodeShape, ins+"in x : |0 ;", ins+"in x : |1001 ;")
	checkFaults(t, impl.CodeLimit, ins+"in |x : 1 ;", ins+"in |x : 1000 ;")
	// let: the name, then the expression
	checkFaults(t, impl.CodeName, "let x = 1 ; let |x = w ;", "let x = 1 ; let |x = fill(1, 0) ;")
	// repeat: the name, then k, then the expression
	checkFaults(t, impl.CodeName, "repeat 101 |x = w ;", "let x = 1 ; repeat 100 x = |w ;")
	checkFaults(t, impl.CodeLimit, "let x = 1 ; repeat |101 x = w ;", "let x = 1 ; repeat |999999999999999 x = fill(1, 0) ;", "let x = 1 ; repeat |000000000000101 x = x ;")
	// def: the name, then the parameters; the expression is not looked at
	checkFaults(t, impl.CodeName, "let f = 1 ; def |f(p, p) = w ;", "def f(p, |p) = w ;")
	// out: MaxOuts, then the expression
	checkFaults(t, impl.CodeLimit, outs+"|out w ;", outs+"|out x ;", outs+"|out fill(1, 0) ;")
}

// P7: the same inside expressions.
func TestSourceTwoFaultsInOneExpression(t *testing.T) {
	const two = "in x : 2 ; in y : 3 ; in z : 1 ; "
	for _, text := range []string{
		"out |w + v ;", "out x + |w ;", "out x + |w + y ;", "out max(x, |w) ;", "out sel(x, y, |w) ;", "out sel(|w, x, y) ;", "out fill(|w, 0) ;", "out pick(|w, 9) ;",
		"out put(|w, 9, 0) ;", "out grad(w, |v) ;", "out grad(x, |v) ;", "out grad(|w, x) ;", "out jvp(w, |v, u) ;", "out jvp(|w, x, u) ;", "out jvp(z, x, |w) ;", "out jvp(x + y, |v, u) ;",
		"out grad(|w, x) + v ;", "out jvp(|f(1), x, w) ;", "out grad(x + y, |v) ;", "out grad(grad(x, |w), x) ;", "out grad(grad(x, v), |w) ;",
		"def f(p) = grad(p, |q) ; out f(x) ;", "def f(p) = p ; out grad(1, |f) ;", "def f(p) = p ; out jvp(1, |f, 1) ;", "out jvp(z, |w, y) ;",
	} {
		checkFaults(t, impl.CodeName, two+text)
	}
	for _, text := range []string{
		"out (x |+ y) + w ;", "out max(x |+ y, w) ;", "out |fill(x, 0) ;", "out |fill(x, 1001) ;", "out |put(x, 9, 0) ;", "out |put(x, 9, 3) ;", "out put(z, 9, |0) ;", "out put(z, 1001, |1001) ;",
		"out put(z, |3, 3) + w ;", "out fill(x |+ y, 0) ;", "out pick(x |+ y, 9) ;", "out grad(x |+ y, x) ;", "out |grad(x, x) + w ;", "out jvp(x |+ y, x, w) ;", "out jvp(z, x, x |+ y) ;",
		"out jvp(x |+ y, x, y) ;", "out sel(x |+ y, w, v) ;", "def f(p) = w ; out f(x |+ y) ;", "def f(p, q) = w ; out f(x |+ y, v) ;",
	} {
		checkFaults(t, impl.CodeShape, two+text)
	}
}

// P7: the statements are carried out in order, and the first fault ends it.
func TestSourceTwoFaultyStatements(t *testing.T) {
	faulty := []struct {
		code int
		text string
	}{
		{impl.CodeName, "out |w ; "}, {impl.CodeName, "in |x : 1 ; "}, {impl.CodeName, "let |x = 1 ; "}, {impl.CodeName, "repeat 2 |w = 1 ; "},
		{impl.CodeName, "def |x() = 1 ; "}, {impl.CodeName, "def h(p, |p) = 1 ; "}, {impl.CodeShape, "in w : |0 ; "}, {impl.CodeShape, "out x |+ y ; "},
		{impl.CodeShape, "let v = fill(1, |0) ; "}, {impl.CodeLimit, "repeat |101 x = x ; "}, {impl.CodeLimit, "def g() = |g() ; out g() ; "},
		{impl.CodeName, "out f(1) + |f() ; "},
	}
	const first = "in x : 2 ; in y : 3 ; def f(p) = -p ; "
	for _, a := range faulty {
		checkFaults(t, a.code, first+a.text)
		for _, b := range faulty {
			checkFaults(t, a.code, first+a.text+strings.Replace(b.text, "|", "", 1), first+"out x + 1 ; "+a.text+strings.Replace(b.text, "|", "", 1))
		}
		checkFaults(t, impl.CodeSyntax, first+strings.Replace(a.text, "|", "", 1)+"out |;", first+strings.Replace(a.text, "|", "", 1)+"|@")
		checkFaults(t, impl.CodeLimit, first+strings.Replace(a.text, "|", "", 1)+"out |1234567890123456 ;")
	}
}

// P7: ints of many digits are numbers like others.
func TestSourceIntsOfManyDigits(t *testing.T) {
	const zeros = "00000000000000" // and one digit more: MaxDigits
	checkGraphs(t,
		"in x : "+zeros+"3 ;", "ins 3; input 0 : 3; outs",
		"let x = 1 ; repeat "+zeros+"1 x = 2 ; out x ;", "ins; const 1 : 1; const 2 : 1; outs 1",
		"out fill(1, "+zeros+"2) ;", "ins; const 1 : 1; fill 0 : 2; outs 1",
		"in x : 9 ; out pick(x, "+zeros+"8) ;", "ins 9; input 0 : 9; pick 0 @8 : 1; outs 1",
		"out put(1, "+zeros+"8, "+zeros+"9) ;", "ins; const 1 : 1; put 0 @8 : 9; outs 1",
	)
	// 2 to the power 32 and its like: no int is cut to fewer bits
	for _, k := range []string{"4294967297", "4294967298", "281474976710657", "65537", "257", "1025"} {
		if k != "257" {
			checkFaults(t, impl.CodeShape, "in x : |"+k+" ;", "out fill(1, |"+k+") ;", "out put(1, 0, |"+k+") ;")
		}
		checkFaults(t, impl.CodeShape, "out pick(1, |"+k+") ;", "out put(1, |"+k+", 2) ;")
		checkFaults(t, impl.CodeLimit, "let x = 1 ; repeat |"+k+" x = 1 ;")
	}
}
