package looptext

import (
	"strings"
	"testing"

	"looptext/api"
)

// P10: the errors in their order, and what is looked at first, next and last.

func TestReckonTellsTheErrorOfRead(t *testing.T) {
	denies(t, api.ErrLong, strings.Repeat(" ", 401), "1"+strings.Repeat(" ", 400), strings.Repeat("(", 401))
	denies(t, api.ErrEnd, "", " ", "(", "(+ 1", "'", "\"a", "#|", "#;1", "; 1", "(a .")
	denies(t, api.ErrText, ")", "(. a)", "\\", "#x", "1/0", "(+ 1 2/0)", "#\\ab", "(a . b c)", "#("+strings.Repeat("1 ", 21)+")")
	denies(t, api.ErrNumber, "1000001", "-1000001", "1/1000001", "(if #t 1 1000001)")
	denies(t, api.ErrLabel, "#0#", "#0=#0#", "(#0=1 #0=2)", "#;#0=1 2", "(if #t 1 #0#)")
	denies(t, api.ErrDeep, strings.Repeat("'", 31)+"a", strings.Repeat("(", 31))
	gives(t, map[string]string{
		strings.Repeat("(+ ", 30) + "1" + strings.Repeat(")", 30): "1",
		"1" + strings.Repeat(" ", 399):                            "1",
		strings.Repeat(";", 398) + "\n1":                          "1",
	})
}

func TestReckonOfManyNodes(t *testing.T) {
	many := " (+" + strings.Repeat(" 1", 67) + ") 0)"
	gives(t, map[string]string{"(if '#(1)" + many: "67"})
	denies(t, api.ErrLong, "(if '#(1 1)"+many, "(if '#(1 1)"+many+")", "(a '#(1 1)"+many)
}

func TestReckonLooksBehindTheDatum(t *testing.T) {
	for _, behind := range []string{"", " ", "\t\n ", ";", " ; a", ";)\n", ";\n;\n", "#||#", " #| a |# ", "#| #| |# |#", "#|#||#|#", "#||#;", "; #|", "#| ; |#", "#||##||#", "#|\xff|#"} {
		gives(t, map[string]string{"(+ 1 2)" + behind: "3", "#t" + behind: "#t", "'a" + behind: "a"})
	}
	for _, behind := range []string{" 2", ")", " a", "'", " .", "#;2", " #;", "#|", " #| |", "#| #| |#", "#||#|#", "; a\n2", "#| |# 2", "\\", "\x00", "\r", "\xff", "\"", "\"a\"", "#", "#t", "#0=", "#0#", "|#", "#;1 ", "(", "#("} {
		denies(t, api.ErrText, "(+ 1 2)"+behind, "'a"+behind, "(a)"+behind, "(/ 1 0)"+behind, "'#0=(a . #0#)"+behind, "a "+behind)
	}
	denies(t, api.ErrEnd, "(+ 1 #|) )")
	denies(t, api.ErrLabel, "#0# )")
}

func TestReckonOfWhatHoldsItself(t *testing.T) {
	denies(t, api.ErrCycle,
		"#0=(a . #0#)", "#0=(#0#)", "#0=#(#0#)", "#0=(+ 1 #0#)", "#0=(+ 1 . #0#)", "#0='#0#", "#0=#(1 (2 . #0#))",
		"'#0=(a . #0#)", "'(a #0=#(#0#))", "(quote #0=(#0#))", "(+ 1 #0=(+ 1 #0#))", "(+ 1 . #0=(2 . #0#))",
		"(if #t 1 #0=(a . #0#))", "(if #f '#0=(#0#) 1)", "(a #0=(#0#))", "(+ (/ 1 0) #0=(#0#))", "(+ a '#0=#(#0#))", "#(#0=(#0#))", "(-  . #0=(#0#))", "(quote a #0=(#0#))", "'#0=(#1=(#0#) . #1#)")
	gives(t, map[string]string{"'(#0=(a) #0#)": "((a) (a))", "'(#0=\"t\" (#0#))": "(\"t\" (\"t\"))", "(+ #0=(+ 1) (+ #0# #0#))": "3", "'(#0=(a) #1=(#0# . #0#) #1#)": "((a) ((a) a) ((a) a))"})
}

// How many things a list holds, and its end, is looked at ahead of them.
func TestReckonLooksAtTheFormFirst(t *testing.T) {
	denies(t, api.ErrOp, "(+ (/ 1 0) . 1)", "(* (/ 1 0) . a)", "(- (/ 1 0) . #t)", "(/ (/ 1 0) . #(1))", "(= (/ 1 0))", "(= (/ 1 0) 1 1)", "(< (/ 1 0))", "(< (/ 1 0) 1 . 2)", "(if (/ 1 0) 1)", "(if (/ 1 0) 1 2 3)", "(if (/ 1 0) 1 2 . 3)", "(quote (/ 1 0) 1)",
		"(a (/ 1 0))", "((/ 1 0))", "((/ 1 0) 1)", "(1 (/ 1 0))", "(+ (* 1001 1000) . 1)", "((* 1001 1000))", "#((/ 1 0))")
}

func TestReckonFromTheLeft(t *testing.T) {
	denies(t, api.ErrZero, "(+ (/ 1 0) a)", "(+ (/ 1 0) (* 1001 1000))", "(+ 1 (/ 1 0) (-))", "(= (/ 1 0) a)", "(< (/ 1 0) (* 1001 1000))", "(- (+ 1 (/ 1 0)) a)", "(if (/ 1 0) a (* 1001 1000))", "(* (/ 0) ())")
	denies(t, api.ErrOp, "(+ a (/ 1 0))", "(+ 1 () (* 1001 1000))", "(= #() (/ 1 0))", "(< (-) (/ 1 0))", "(/ (+ #t) (/ 1 0))", "(* (* a) (/ 0))")
	denies(t, api.ErrNumber, "(+ (* 1001 1000) (/ 1 0))", "(+ (* 1001 1000) a)", "(= (- -1000000 1) (/ 1 0))", "(< 1 (+ 1000000 1))", "(if (+ 1000000 1) a (/ 1 0))")
}

// What must be a number is looked at behind the reckoning of all.
func TestReckonLooksForNumbersLast(t *testing.T) {
	denies(t, api.ErrZero, "(+ #t (/ 1 0))", "(* \"a\" 'b (/ 1 0))", "(- '() (/ 0))", "(/ #t (/ 1 0))", "(= #t (/ 1 0))", "(< 'a (/ 1 0))")
	denies(t, api.ErrNumber, "(+ #t (* 1001 1000))", "(= 'a (+ 1000000 1))")
	denies(t, api.ErrOp, "(+ #t)", "(* 'a)", "(- \"1\")", "(/ #\\1)", "(+ 1 2 '())", "(* 0 #f)", "(/ #t 0)", "(/ 0 #t)", "(+ 1 (< 1 2))", "(- 'a 'b)", "(+ 1 '(2))", "(+ 1 '#(2))", "(* 1 (quote a))")
	// It is looked at ahead of what comes of the numbers.
	denies(t, api.ErrOp, "(/ 1 0 #t)", "(* 1001 1000 #t)", "(+ 1000000 1 'a)")
}

func TestReckonBounds(t *testing.T) {
	gives(t, map[string]string{
		"(+ 999999 1)": "1000000", "(- -999999 1)": "-1000000", "(* 1000 1000)": "1000000", "(* -1000 1000)": "-1000000", "(/ 1000 -1/1000)": "-1000000", "(/ 1 1000000)": "1/1000000", "(/ 1000000)": "1/1000000", "(/ -1/1000000)": "-1000000", "(- 1000000)": "-1000000", "(- -1000000)": "1000000", "(+ 1000000)": "1000000", "(* 1/1000 1/1000)": "1/1000000", "(/ 1/1000 1000)": "1/1000000",
		"(+ 1/1000000 999999/1000000)": "1", "(+ 1/1000000 1/1000000)": "1/500000", "(* 1000000/7 7/1000000)": "1", "(* 999983 1/999983)": "1", "(/ 999983/1000000 999983/1000000)": "1", "(- 999983/999979 999983/999979)": "0", "(* 0 1000000 1000000)": "0", "(* 999999/1000000 1000000/999999)": "1",
	})
	denies(t, api.ErrNumber,
		"(+ 1000000 1)", "(+ -1000000 -1)", "(- -1000000 1)", "(- 1000000 -1)", "(+ 1000000 1/2)", "(* 1001 1000)", "(* -1001 1000)", "(/ 1001 1/1000)", "(/ 1/1001 1000)", "(/ 1/1001 -1000)", "(* 1/1001 1/1000)", "(+ 1/1000 1/1001)", "(- 1/999983 1/999979)", "(* 1000000 1000000)", "(/ 1000000 1/1000000)", "(/ 1/1000000 1000000)", "(+ 1000000 1/1000000)", "(+ 1/1000000 1/999999)",
		"(* 101 9901)", "(* 1/101 1/9901)", "(/ 1/101 -9901)", "(/ 999983 1/2)", "(+ 500001 1000000/2)")
	// Each two are looked at, from the left.
	denies(t, api.ErrNumber, "(+ 1000000 1 -1)", "(- -1000000 1 -1)", "(* 1001 1000 0)", "(* 1001 1000 1/1000)", "(/ 1/1001 1000 1/1000)", "(/ 1/1001 1000 0)", "(+ 1/1000 1/1001 -1/1001)", "(+ 1 1000000 -1)")
	gives(t, map[string]string{"(+ 1000000 -1 1)": "1000000", "(* 0 1001 1000)": "0", "(* 1001 1/1000 1000)": "1001", "(- -1000000 -1 1)": "-1000000", "(/ 1/1001 1/1000 1000)": "1/1001", "(+ 1/1000 -1/1000 1/1001)": "1/1001"})
}

func TestReckonDividedByZero(t *testing.T) {
	denies(t, api.ErrZero, "(/ 0)", "(/ 1 0)", "(/ 0 0)", "(/ 1 2 0)", "(/ 1 0 2)", "(/ 1 -0)", "(/ 1 0/5)", "(/ (- 1 1))", "(/ 1 0 0)", "(/ 1000000 0)", "(+ 1 (/ 1 0))", "(/ 1 0 1/1000000)", "(/ 1/1001 0 1000)")
	gives(t, map[string]string{"(/ 0 1)": "0", "(/ 0 1 2)": "0", "(if #f (/ 0) 1)": "1"})
}

// The answer is what Write gives in Simple, of at most 400 bytes.
func TestReckonOfLongAnswers(t *testing.T) {
	x := func(many int) string { return "\"" + strings.Repeat("x", many) + "\"" }
	lines := func(many int) string { return "\"" + strings.Repeat("\n", many) + "\"" }
	quotes := func(many int) string { return strings.Repeat("'", many) + "a" }
	gives(t, map[string]string{
		x(398):                         x(398),
		lines(199):                     "\"" + strings.Repeat("\\n", 199) + "\"",
		"'(#0=" + x(130) + " #0# #0#)": "(" + x(130) + " " + x(130) + " " + x(130) + ")",
		"'" + strings.Repeat("s", 399): strings.Repeat("s", 399),
		quotes(30):                     strings.Repeat("(quote ", 29) + "a" + strings.Repeat(")", 29),
	})
	denies(t, api.ErrLong, "'(#0="+x(131)+" #0# #0#)", lines(200), lines(398), "'(#0="+quotes(27)+" #0#)", "(if #f 1 "+lines(200)+")")
	// What is not in the answer may be long, and an error comes first.
	gives(t, map[string]string{"(if " + lines(200) + " 1 2)": "1", "(if '(#0=" + x(150) + " #0# #0#) 'a 2)": "a"})
	denies(t, api.ErrOp, "(+ "+lines(200)+")", "(- "+lines(200)+" . 1)")
}
