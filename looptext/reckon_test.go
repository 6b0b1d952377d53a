package looptext

import (
	"testing"

	"looptext/api"
)

// P10: what is reckoned, and what comes of it.

// gives asks for what comes of each text.
func gives(t *testing.T, wants map[string]string) {
	t.Helper()
	for text, want := range wants {
		if got, errno := Reckon(text); got != want || errno != api.OK {
			t.Errorf("Reckon(%.100q) = %.100s, error %d; want %.100s", text, got, errno, want)
		}
	}
}

// denies asks for the same error of each text, and nothing else.
func denies(t *testing.T, want api.Errno, texts ...string) {
	t.Helper()
	for _, text := range texts {
		if got, errno := Reckon(text); got != "" || errno != want {
			t.Errorf("Reckon(%.100q) = %.100s, error %d; want error %d", text, got, errno, want)
		}
	}
}

func TestReckonExamples(t *testing.T) {
	gives(t, map[string]string{"(+ 1/2 (* 2 3))": "13/2", "(quote (a . b))": "(a . b)"})
	denies(t, api.ErrZero, "(/ 1 (- 2 2))")
	denies(t, api.ErrOp, "(+ 1 a)")
}

func TestReckonAtoms(t *testing.T) {
	gives(t, map[string]string{
		"5": "5", "+5": "5", "-0": "0", "6/4": "3/2", "-1000000": "-1000000", "1/1000000": "1/1000000",
		"#t": "#t", "#true": "#t", "#f": "#f", "#false": "#f",
		"#\\a": "#\\a", "#\\)": "#\\)", "#\\space": "#\\space", "#\\nul": "#\\nul", "#\\delete": "#\\delete",
		"\"\"": "\"\"", "\"(+ 1 2)\"": "\"(+ 1 2)\"", "\"\\\\\\\"\\n\\t\"": "\"\\\\\\\"\\n\\t\"", "\"\n\t\xff\x00\"": "\"\\n\\t\xff\x00\"",
		"#7=5": "5", "#0=#1=\"t\"": "\"t\"", "#;(/ 1 0) 5": "5",
	})
}

func TestReckonQuote(t *testing.T) {
	gives(t, map[string]string{
		"(quote a)": "a", "'a": "a", "'5": "5", "'6/4": "3/2", "'\"t\"": "\"t\"", "'#\\tab": "#\\tab", "'#f": "#f", "'()": "()", "'#()": "#()", "'+": "+", "'quote": "quote",
		"'(+ 1 2)": "(+ 1 2)", "'(/ 1 0)": "(/ 1 0)", "'#((/ 1 0) a)": "#((/ 1 0) a)", "'(-)": "(-)",
		"'(a b . c)": "(a b . c)", "'(a . (b))": "(a b)", "'(1 . 'a)": "(1 quote a)", "'#(1 (a) #(b))": "#(1 (a) #(b))",
		"''a": "(quote a)", "'''a": "(quote (quote a))", "(quote (quote))": "(quote)",
		"(quote . (a))": "a", "(quote #;b a)": "a", "(#0=quote #0#)": "quote",
		"'(#0=(a) #0# . #0#)": "((a) (a) a)", "'#(#0=\"t\" #0# #1=5 #1#)": "#(\"t\" \"t\" 5 5)", "'#0=(#1=(a) . #1#)": "((a) a)", "#0='(a)": "(a)",
	})
	denies(t, api.ErrOp, "(quote)", "(quote a b)", "(quote . a)", "(quote a . b)", "(quote . 'a)", "(Quote a)", "(\"quote\" a)")
}

func TestReckonSums(t *testing.T) {
	gives(t, map[string]string{
		"(+)": "0", "(+ 5)": "5", "(+ -5)": "-5", "(+ 1 2)": "3", "(+ 1 2 3 4)": "10", "(+ 1/2 1/3)": "5/6", "(+ 1/2 1/2)": "1", "(+ 1/6 1/3)": "1/2", "(+ 1/2 -1/2)": "0", "(+ -1/2 1/3)": "-1/6",
		"(- 5)": "-5", "(- -5)": "5", "(- 0)": "0", "(- 2/3)": "-2/3", "(- 5 3)": "2", "(- 3 5)": "-2", "(- 1 2 3)": "-4", "(- 1/2 1/3)": "1/6", "(- 1/2 1/2)": "0", "(- 1 -1)": "2",
		"(+ (+ 1 2) (- 5 (+ 3)))": "5", "(+ '1 (quote 2))": "3", "(+ . (1 . (2)))": "3", "(+ 1 #;a #| b |# 2 ; c\n)": "3",
	})
	denies(t, api.ErrOp, "(-)", "(- . 1)", "(+ . 1)", "(+ 1 . 2)", "(- 1 2 . 3)")
}

func TestReckonProducts(t *testing.T) {
	gives(t, map[string]string{
		"(*)": "1", "(* 5)": "5", "(* -5)": "-5", "(* 2 3)": "6", "(* 2 3 4)": "24", "(* 2/3 3/2)": "1", "(* -1/2 -1/2)": "1/4", "(* 0 -1/2)": "0", "(* -2/3 3)": "-2",
		"(/ 5)": "1/5", "(/ -5)": "-1/5", "(/ 1)": "1", "(/ -2/3)": "-3/2", "(/ 1/7)": "7", "(/ 6 3)": "2", "(/ 3 6)": "1/2", "(/ 3 -6)": "-1/2", "(/ -3 -6)": "1/2", "(/ 0 -5)": "0", "(/ 12 2 3)": "2", "(/ 1/2 1/3)": "3/2", "(/ 1/2 -1/3)": "-3/2",
		"(/ (* 2 3) (/ 4 (* 2)))": "3",
	})
	denies(t, api.ErrOp, "(/)", "(/ . 1)", "(* . 1)", "(* 1 . 2)", "(/ 1 2 . 3)")
}

func TestReckonTruths(t *testing.T) {
	gives(t, map[string]string{
		"(= 1 1)": "#t", "(= 1 2)": "#f", "(= 1/2 2/4)": "#t", "(= 1/2 1/3)": "#f", "(= 1 -1)": "#f", "(= 1/2 -1/2)": "#f", "(= 0 (- 0))": "#t", "(= 1/3 2/3)": "#f", "(= (+ 1 1) '2)": "#t",
		"(< 1 2)": "#t", "(< 2 1)": "#f", "(< 1 1)": "#f", "(< 1/3 1/2)": "#t", "(< 1/2 1/3)": "#f", "(< -1/2 -1/3)": "#t", "(< -1/3 -1/2)": "#f", "(< -1 0)": "#t", "(< 0 -1)": "#f", "(< -5 1/9)": "#t",
		"(< 999998/999999 999999/1000000)": "#t", "(< 999999/1000000 999998/999999)": "#f", "(= 999998/999999 999999/1000000)": "#f", "(< -1000000 1000000)": "#t", "(< 1/1000000 1000000)": "#t",
	})
	denies(t, api.ErrOp, "(=)", "(= 1)", "(= 1 1 1)", "(= 1 . 1)", "(= 1 1 . 1)", "(<)", "(< 1)", "(< 1 2 3)", "(< 1 . 2)", "(< 1 2 . 3)")
	denies(t, api.ErrOp, "(= #t #t)", "(= 'a 'a)", "(= \"a\" \"a\")", "(= '() '())", "(< 1 #\\a)", "(< #t 1)", "(< (< 1 2) 3)", "(> 1 2)", "(<= 1 2)", "(== 1 1)")
}

func TestReckonIf(t *testing.T) {
	gives(t, map[string]string{
		"(if #t 1 2)": "1", "(if #f 1 2)": "2", "(if '#f 1 2)": "2", "(if (= 1 2) 1 2)": "2", "(if (< 1 2) 1 2)": "1", "(if (if #t #f #t) 1 2)": "2",
		"(if 0 1 2)": "1", "(if \"\" 1 2)": "1", "(if \"#f\" 1 2)": "1", "(if #\\f 1 2)": "1", "(if '() 1 2)": "1", "(if 'a 1 2)": "1", "(if 'f 1 2)": "1", "(if '(#f) 1 2)": "1", "(if '#(#f) 1 2)": "1",
		"(if #t (+ 1 2) a)": "3", "(if #f a (+ 1 2))": "3", "(if #t 'a b)": "a", "(if #f () '())": "()", "(if #t #f #t)": "#f", "(if . (#t . (1 2)))": "1", "(+ (if #t 1 2) (if #f 1 2))": "3",
		"(if #f (/ 1 0) 5)": "5", "(if #t 5 (/ 1 0))": "5", "(if #t 5 (if))": "5", "(if #f (* 1001 1000) 5)": "5", "(if #f #(1) 5)": "5",
		"(if '(quote #0=#f) (if '#0# 1 2) 3)": "2",
	})
	denies(t, api.ErrOp, "(if)", "(if #t)", "(if #t 1)", "(if #t 1 2 3)", "(if #t 1 . 2)", "(if #t 1 2 . 3)", "(if . #t)")
	denies(t, api.ErrOp, "(if a 1 2)", "(if () 1 2)", "(if #t a 2)", "(if #f 1 a)", "(if (+ 'a) 1 2)")
	denies(t, api.ErrZero, "(if (/ 1 0) 1 2)", "(if #t (/ 1 0) 2)", "(if #f 1 (/ 1 0))")
}

func TestReckonAnythingElse(t *testing.T) {
	denies(t, api.ErrOp, "a", "+", "quote", "...", "()", "#()", "#(1)", "#(+ 1 2)", "(())", "((+) 1 2)", "('+ 1 2)", "(1)", "(1 2)", "(#t 1 2)", "(\"+\" 1 2)", "(#\\+ 1 2)", "(#(+) 1)", "(car '(a))", "(++ 1 2)", "(plus 1 2)", "(IF #t 1 2)", "(then 1)", "(a . b)", "(1 . 2)")
	denies(t, api.ErrOp, "#0=a", "#0=()", "(+ 1 ())", "(+ 1 #(1))", "(+ 1 + 2)", "(* quote a)", "(- (a))")
}

// A label stands for what it was put at wherever that is looked at.
func TestReckonThroughLabels(t *testing.T) {
	gives(t, map[string]string{
		"(#0=+ (#0# 1 2) (#0# 3 4))": "10", "(+ #0=5 #0#)": "10", "(+ #0=(* 2 3) #0#)": "12", "(+ #0=#1=5 #0# #1#)": "15", "(+ #0=5 #1=#0# #1#)": "15",
		"(if '#0=(1 2) (+ . #0#) 0)": "3", "(if '#0=() (+ 1 2 . #0#) 0)": "3", "(if (if '#0=#f 1 #0#) 1 2)": "2", "(if '#0=\"t\" #0# 0)": "\"t\"", "(if '#0=(a b) '#0# 0)": "(a b)", "(if '#0=(+ 1 2) #0# 0)": "3",
		"(* (+ . #0=(1 2)) (- . #0#))": "-3", "(if '#0=if (#0# #t 1 2) 0)": "1", "(if '#0=5 (= #0# '#0#) 0)": "#t",
	})
	denies(t, api.ErrOp, "(+ 1 . #0=(+ 2 3))", "(+ #0=(- 5) . #0#)", "(if '#0=a #0# 0)", "(if '#0=(1 . 2) (+ . #0#) 0)", "(#0=+ 1 #0#)", "(if '#0=() #0# 0)")
}
