package tests

import "testing"

// P7: each statement alone.
func TestSourceStatements(t *testing.T) {
	checkGraphs(t,
		"in x : 3 ;", "ins 3; input 0 : 3; outs",
		"in x:1;in y:1000;in _0:2;", "ins 1 1000 2; input 0 : 1; input 1 : 1000; input 2 : 2; outs",
		"in x : 007 ;", "ins 7; input 0 : 7; outs",
		"let y = 5 ;", "ins; const 5 : 1; outs",
		"let y = 5 ; let z = y ; out z ; out y ;", "ins; const 5 : 1; outs 0 0",
		"def f ( p ) = p ;", "ins; outs",
		"def f ( ) = w ; def g ( p ) = f ( 1 , 2 ) + grad(p, nothing) ;", "ins; outs",
		"out 0.1 ; out 2.50 ; out 00 ;", "ins; const 0.1 : 1; const 2.5 : 1; const 0 : 1; outs 0 1 2",
		"in x : 2 ; out x ; out x ; out 1 ;", "ins 2; input 0 : 2; const 1 : 1; outs 0 0 1",
		"let y = 1 ; in x : 2 ; out y ;", "ins 2; const 1 : 1; input 0 : 2; outs 0",
	)
}

// P7: an operation stands behind its operands, in the order in which they are written.
func TestSourceOperators(t *testing.T) {
	checkGraphs(t,
		"out 1 - 2 - 3 ;", "ins; const 1 : 1; const 2 : 1; sub 0 1 : 1; const 3 : 1; sub 2 3 : 1; outs 4",
		"out 1 - (2 - 3) ;", "ins; const 1 : 1; const 2 : 1; const 3 : 1; sub 1 2 : 1; sub 0 3 : 1; outs 4",
		"out 1 / 2 / 3 ;", "ins; const 1 : 1; const 2 : 1; div 0 1 : 1; const 3 : 1; div 2 3 : 1; outs 4",
		"out 1 * 2 / 3 ;", "ins; const 1 : 1; const 2 : 1; mul 0 1 : 1; const 3 : 1; div 2 3 : 1; outs 4",
		"out 1 + 2 * 3 ;", "ins; const 1 : 1; const 2 : 1; const 3 : 1; mul 1 2 : 1; add 0 3 : 1; outs 4",
		"out 1 * 2 + 3 ;", "ins; const 1 : 1; const 2 : 1; mul 0 1 : 1; const 3 : 1; add 2 3 : 1; outs 4",
		"out (1 + 2) * 3 ;", "ins; const 1 : 1; const 2 : 1; add 0 1 : 1; const 3 : 1; mul 2 3 : 1; outs 4",
		"out -1 * 2 ;", "ins; const 1 : 1; neg 0 : 1; const 2 : 1; mul 1 2 : 1; outs 3",
		"out -(1 * 2) ;", "ins; const 1 : 1; const 2 : 1; mul 0 1 : 1; neg 2 : 1; outs 3",
		"out 1 - -2 ;", "ins; const 1 : 1; const 2 : 1; neg 1 : 1; sub 0 2 : 1; outs 3",
		"out 1--2 ;", "ins; const 1 : 1; const 2 : 1; neg 1 : 1; sub 0 2 : 1; outs 3",
		"out ---1 ;", "ins; const 1 : 1; neg 0 : 1; neg 1 : 1; neg 2 : 1; outs 3",
		"out -0 ;", "ins; const 0 : 1; neg 0 : 1; outs 1",
		"out ((1)) ;", "ins; const 1 : 1; outs 0",
		"out 1 + 1 ;", "ins; const 1 : 1; const 1 : 1; add 0 1 : 1; outs 2",
	)
}

// P7: what each key word puts behind.
func TestSourceKeyWords(t *testing.T) {
	checkGraphs(t,
		"in x : 2 ; out exp(x) ; out sum(x) ; out -x ;", "ins 2; input 0 : 2; exp 0 : 2; sum 0 : 1; neg 0 : 2; outs 1 2 3",
		"out sum(1) ;", "ins; const 1 : 1; sum 0 : 1; outs 1",
		"in x : 2 ; out max(x, x) ; out dot(x, x) ;", "ins 2; input 0 : 2; max 0 0 : 2; mul 0 0 : 2; sum 2 : 1; outs 1 3",
		"out max(1, 2) ;", "ins; const 1 : 1; const 2 : 1; max 0 1 : 1; outs 2",
		"out dot(1, 2) ;", "ins; const 1 : 1; const 2 : 1; mul 0 1 : 1; sum 2 : 1; outs 3",
		"out sel(1, 2, 3) ;", "ins; const 1 : 1; const 2 : 1; const 3 : 1; sel 0 1 2 : 1; outs 3",
		"out fill(7, 1) ; out fill(7, 1000) ;", "ins; const 7 : 1; fill 0 : 1; const 7 : 1; fill 2 : 1000; outs 1 3",
		"in x : 3 ; out pick(x, 0) ; out pick(x, 2) ; out pick(1, 0) ;",
		"ins 3; input 0 : 3; pick 0 @0 : 1; pick 0 @2 : 1; const 1 : 1; pick 3 @0 : 1; outs 1 2 4",
		"out put(7, 0, 1) ; out put(7, 2, 3) ; out put(7, 999, 1000) ;",
		"ins; const 7 : 1; put 0 @0 : 1; const 7 : 1; put 2 @2 : 3; const 7 : 1; put 4 @999 : 1000; outs 1 3 5",
	)
}

// P7: a value of length 1 is filled to the length of the longest, each for itself and in its order.
func TestSourceFitting(t *testing.T) {
	checkGraphs(t,
		"in x : 2 ; out x + 1 ;", "ins 2; input 0 : 2; const 1 : 1; fill 1 : 2; add 0 2 : 2; outs 3",
		"in x : 2 ; out 1 - x ;", "ins 2; input 0 : 2; const 1 : 1; fill 1 : 2; sub 2 0 : 2; outs 3",
		"in x : 1 ; out x * x ;", "ins 1; input 0 : 1; mul 0 0 : 1; outs 1",
		"in x : 2 ; out dot(x, 3) ; out dot(3, x) ;",
		"ins 2; input 0 : 2; const 3 : 1; fill 1 : 2; mul 0 2 : 2; sum 3 : 1; const 3 : 1; fill 5 : 2; mul 6 0 : 2; sum 7 : 1; outs 4 8",
		"in x : 2 ; in y : 1 ; out max(y, x) ; out x / y ;", "ins 2 1; input 0 : 2; input 1 : 1; fill 1 : 2; max 2 0 : 2; fill 1 : 2; div 0 4 : 2; outs 3 5",
		"in x : 2 ; in y : 1 ; out sel(y, x, x) ;", "ins 2 1; input 0 : 2; input 1 : 1; fill 1 : 2; sel 2 0 0 : 2; outs 3",
		"in x : 2 ; in y : 1 ; out sel(x, y, x) ;", "ins 2 1; input 0 : 2; input 1 : 1; fill 1 : 2; sel 0 2 0 : 2; outs 3",
		"in x : 2 ; in y : 1 ; out sel(x, x, y) ;", "ins 2 1; input 0 : 2; input 1 : 1; fill 1 : 2; sel 0 0 2 : 2; outs 3",
		"in x : 2 ; in y : 1 ; out sel(y, y, x) ;", "ins 2 1; input 0 : 2; input 1 : 1; fill 1 : 2; fill 1 : 2; sel 2 3 0 : 2; outs 4",
		"in x : 2 ; in y : 1 ; out sel(y, x, 5) ;", "ins 2 1; input 0 : 2; input 1 : 1; const 5 : 1; fill 1 : 2; fill 2 : 2; sel 3 0 4 : 2; outs 5",
		"in x : 2 ; in y : 1 ; out sel(x, 4, y) ;", "ins 2 1; input 0 : 2; input 1 : 1; const 4 : 1; fill 2 : 2; fill 1 : 2; sel 0 3 4 : 2; outs 5",
		"in x : 2 ; in y : 1 ; out sel(y, y, y) ; out sel(x, x, x) ;", "ins 2 1; input 0 : 2; input 1 : 1; sel 1 1 1 : 1; sel 0 0 0 : 2; outs 2 3",
	)
}

// P7: a name stands for the value that it has by then.
func TestSourceRepeat(t *testing.T) {
	checkGraphs(t,
		"in x : 1 ; repeat 3 x = x * x ; out x ;", "ins 1; input 0 : 1; mul 0 0 : 1; mul 1 1 : 1; mul 2 2 : 1; outs 3",
		"in x : 1 ; repeat 0 x = w ; out x ;", "ins 1; input 0 : 1; outs 0",
		"in x : 1 ; repeat 0 x = f(1) + fill(1, 0) ; repeat 000 x = pick(x, 5) ; out x ;", "ins 1; input 0 : 1; outs 0",
		"in x : 1 ; repeat 1 x = 7 ; out x ;", "ins 1; input 0 : 1; const 7 : 1; outs 1",
		"in x : 1 ; repeat 2 x = fill(sum(x), 2) ; out x ;", "ins 1; input 0 : 1; sum 0 : 1; fill 1 : 2; sum 2 : 1; fill 3 : 2; outs 4",
		"in x : 1 ; let y = x ; repeat 2 x = -y ; out x ; out y ;", "ins 1; input 0 : 1; neg 0 : 1; neg 0 : 1; outs 2 0",
		"in x:1; out x; repeat 1x=-x; out x; repeat 1x=-x; out x;", "ins 1; input 0 : 1; neg 0 : 1; neg 1 : 1; outs 0 1 2",
	)
}

// P7: functions, their parameters, and what names mean in their bodies.
func TestSourceFunctions(t *testing.T) {
	checkGraphs(t,
		"def f(p) = p * p ; out f(3) ;", "ins; const 3 : 1; mul 0 0 : 1; outs 1",
		"def f() = 4 ; out f() + f() ;", "ins; const 4 : 1; const 4 : 1; add 0 1 : 1; outs 2",
		"def f(p, q) = q - p ; out f(1, 2) ;", "ins; const 1 : 1; const 2 : 1; sub 1 0 : 1; outs 2",
		"def f(p, q) = p ; out f(1, 2) ;", "ins; const 1 : 1; const 2 : 1; outs 0",
		"def f(p, q, r) = r ; in x : 1 ; out f(-x, x, 2 * x) ;", "ins 1; input 0 : 1; neg 0 : 1; const 2 : 1; mul 2 0 : 1; outs 3",
		// the name of a value at the time of the call, not of the definition
		"def f() = x ; in x : 1 ; out f() ; repeat 1 x = -x ; out f() ;", "ins 1; input 0 : 1; neg 0 : 1; outs 0 1",
		"in x : 1 ; def f(p) = p - x ; repeat 2 x = f(x) ; out x ;", "ins 1; input 0 : 1; sub 0 0 : 1; sub 1 1 : 1; outs 2",
		"in x : 1 ; in y : 1 ; def f(p) = p - x ; repeat 2 x = f(y) ; out x ;", "ins 1 1; input 0 : 1; input 1 : 1; sub 1 0 : 1; sub 1 2 : 1; outs 3",
		// a parameter hides a value, inside its function alone
		"in x : 1 ; def f(x) = -x ; out f(5) ; out x ;", "ins 1; input 0 : 1; const 5 : 1; neg 1 : 1; outs 2 0",
		"in x : 1 ; def g() = x ; def f(x) = g() - x ; out f(5) ;", "ins 1; input 0 : 1; const 5 : 1; sub 0 1 : 1; outs 2",
		"in x : 1 ; def f(x, y) = x - y ; out f(2, x) ;", "ins 1; input 0 : 1; const 2 : 1; sub 1 0 : 1; outs 2",
		"def f(p) = p - g(-p) ; def g(p) = p * p ; out f(3) ;", "ins; const 3 : 1; neg 0 : 1; mul 1 1 : 1; sub 0 2 : 1; outs 3",
		"def f(p) = g(-p) - p ; def g(q) = q ; out f(3) ;", "ins; const 3 : 1; neg 0 : 1; sub 1 0 : 1; outs 2",
		// a parameter with the name of a function
		"def f(f) = -f ; out f(1) ;", "ins; const 1 : 1; neg 0 : 1; outs 1",
		"def g(p) = -p ; def f(g) = g(g) ; out f(1) ;", "ins; const 1 : 1; neg 0 : 1; outs 1",
		"def g(p) = -p ; def f(g) = g + g(g) ; out f(1) ;", "ins; const 1 : 1; neg 0 : 1; add 0 1 : 1; outs 2",
		// the arguments stand ahead of the body
		"def f(p) = 9 ; out f(1) - f(2) ;", "ins; const 1 : 1; const 9 : 1; const 2 : 1; const 9 : 1; sub 1 3 : 1; outs 4",
		"def f(p) = 9 - p ; out f(f(1)) ;", "ins; const 1 : 1; const 9 : 1; sub 1 0 : 1; const 9 : 1; sub 3 2 : 1; outs 4",
		"def f(p, q) = 9 ; out f(f(1, 2), 3) ;", "ins; const 1 : 1; const 2 : 1; const 9 : 1; const 3 : 1; const 9 : 1; outs 4",
		// a new name may be that of a parameter
		"def f(p) = p ; let p = 1 ; def q(p) = p ; in r : 2 ; def s(r, s) = s ; out s(p, 2) ;", "ins 2; const 1 : 1; input 0 : 2; const 2 : 1; outs 2",
	)
}

// P7: derivatives inside expressions.
func TestSourceDerivatives(t *testing.T) {
	checkGraphs(t,
		"in x : 2 ; out grad(sum(x * x), x) ;",
		"ins 2; input 0 : 2; mul 0 0 : 2; sum 1 : 1; const 1 : 1; fill 3 : 2; mul 4 0 : 2; mul 4 0 : 2; add 5 6 : 2; outs 7",
		"in x : 1 ; out grad(x, x) ;", "ins 1; input 0 : 1; const 1 : 1; outs 1",
		"in x : 2 ; out grad(1, x) ;", "ins 2; input 0 : 2; const 1 : 1; const 0 : 2; outs 2",
		"in x : 1 ; in y : 1 ; out grad(x, y) ;", "ins 1 1; input 0 : 1; input 1 : 1; const 0 : 1; outs 2",
		// of another's place: the name's value is taken, not its place in the text
		"in x : 1 ; let y = -x ; out grad(y, x) ; out grad(-y, y) ;",
		"ins 1; input 0 : 1; neg 0 : 1; const 1 : 1; neg 2 : 1; neg 1 : 1; const 1 : 1; neg 5 : 1; outs 3 6",
		"in x : 1 ; repeat 2 x = grad(x * x, x) ; out x ;",
		"ins 1; input 0 : 1; mul 0 0 : 1; const 1 : 1; mul 2 0 : 1; mul 2 0 : 1; add 3 4 : 1; mul 5 5 : 1; const 1 : 1; mul 7 5 : 1; mul 7 5 : 1; add 8 9 : 1; outs 10",
		// of a parameter, which is its argument's value
		"in x : 1 ; def d(p) = grad(p * p, p) ; out d(x) ;", "ins 1; input 0 : 1; mul 0 0 : 1; const 1 : 1; mul 2 0 : 1; mul 2 0 : 1; add 3 4 : 1; outs 5",
		"in x : 1 ; def d(x) = grad(-x, x) ; out d(5) ; out d(-x) ;",
		"ins 1; input 0 : 1; const 5 : 1; neg 1 : 1; const 1 : 1; neg 3 : 1; neg 0 : 1; neg 5 : 1; const 1 : 1; neg 7 : 1; outs 4 8",
		// inside one another
		"in x : 1 ; out grad(grad(x * x, x), x) ;",
		"ins 1; input 0 : 1; mul 0 0 : 1; const 1 : 1; mul 2 0 : 1; mul 2 0 : 1; add 3 4 : 1; const 1 : 1; mul 6 2 : 1; mul 6 2 : 1; add 7 8 : 1; outs 9",
		"in x : 1 ; out jvp(grad(-x, x), x, 2) ;", "ins 1; input 0 : 1; neg 0 : 1; const 1 : 1; neg 2 : 1; const 2 : 1; neg 4 : 1; const 0 : 1; outs 6",
		"in x : 1 ; out grad(jvp(x * x, x, 2), x) ;",
		"ins 1; input 0 : 1; mul 0 0 : 1; const 2 : 1; mul 2 0 : 1; mul 0 2 : 1; add 3 4 : 1; const 1 : 1; mul 6 2 : 1; mul 6 2 : 1; add 7 8 : 1; outs 9",
		// directions: of length 1, of the same length, and where x has length 1 too
		"in x : 2 ; out jvp(-x, x, 3) ;", "ins 2; input 0 : 2; neg 0 : 2; const 3 : 1; fill 2 : 2; neg 3 : 2; outs 4",
		"in x : 2 ; in d : 2 ; out jvp(-x, x, d) ;", "ins 2 2; input 0 : 2; input 1 : 2; neg 0 : 2; neg 1 : 2; outs 3",
		"in x : 1 ; out jvp(-x, x, 3) ;", "ins 1; input 0 : 1; neg 0 : 1; const 3 : 1; neg 2 : 1; outs 3",
		"in x : 2 ; out jvp(x, x, x) ;", "ins 2; input 0 : 2; outs 0",
		"in x : 2 ; in y : 3 ; out jvp(y, x, x) ;", "ins 2 3; input 0 : 2; input 1 : 3; const 0 : 3; outs 2",
		"in x : 2 ; in y : 3 ; out jvp(y, x, 1) ;", "ins 2 3; input 0 : 2; input 1 : 3; const 1 : 1; fill 2 : 2; const 0 : 3; outs 4",
		"in x : 2 ; out jvp(x, x, jvp(x, x, 1)) ;", "ins 2; input 0 : 2; const 1 : 1; fill 1 : 2; outs 2",
		"in x : 2 ; def j(p, t) = jvp(sum(p), p, t) ; out j(x, 1) ;", "ins 2; input 0 : 2; const 1 : 1; sum 0 : 1; fill 1 : 2; sum 3 : 1; outs 4",
	)
}
