package looptext

import (
	"fmt"
	"runtime"
	"strings"
	"sync"
	"testing"
	"time"
	"unsafe"

	"looptext/api"
)

// P1 and P2, as far as Reckon goes.

// tower is a list that begins so, and holds as many lists, each of which has
// the one ahead of it in all its places.
func tower(begin, lowest string, lists int, list func(held string) string) string {
	text, held := begin, lowest
	for i := range lists {
		text += fmt.Sprintf(" #%d=%s", i, list(held))
		held = fmt.Sprintf("#%d#", i)
	}
	return text + ")"
}

// Reckoned in each of their places, they would be more than anyone could reckon.
func TestReckonOnce(t *testing.T) {
	product := func(held string) string { return "(* " + held + " " + held + " " + held + " " + held + ")" }
	difference := func(held string) string { return "(- (- " + held + " " + held + ") (- " + held + "))" }
	chosen := func(held string) string {
		return "(if " + held + " (+ " + held + " " + held + " " + held + ") 7)"
	}
	quotient := func(held string) string { return "(/ " + held + " (/ " + held + " " + held + "))" }
	gives(t, map[string]string{
		tower("(*", "1", 15, product):     "1",
		tower("(+", "1", 8, difference):   "8",
		tower("(+", "0", 10, chosen):      "0",
		tower("(*", "3/2", 10, quotient):  "59049/1024",
		tower("(* 0", "2", 2, product):    "0",
		"(+ #0=(+ 1 2) #0# #0# (- #0#))":  "6",
		"(if #0='(a) (if #0# #0# 1) #0#)": "(a)",
	})
	// What comes of them is too great, or no number, in one of their places.
	denies(t, api.ErrNumber, tower("(*", "2", 9, product))
	denies(t, api.ErrZero, tower("(/", "0", 8, difference))
	denies(t, api.ErrOp, tower("(*", "#t", 15, product))
	denies(t, api.ErrOp, tower("(a", "1", 15, product))
}

func TestReckonEndsOnGreatAnswers(t *testing.T) {
	twice := func(held string) string { return "(" + held + " . " + held + ")" }
	wide := func(held string) string {
		return "#(" + held + " " + held + " " + held + " " + held + " " + held + ")"
	}
	denies(t, api.ErrLong, "'"+tower("(", "a", 20, twice), "'"+tower("#(", "\"\"", 12, wide))
	// Only gone through, not written.
	gives(t, map[string]string{"(if '" + tower("(", "a", 19, twice) + " 1 2)": "1"})
	denies(t, api.ErrOp, tower("(", "a", 20, twice), "(+ '"+tower("(", "a", 19, twice)+")")
}

func TestReckonEndsOnRounds(t *testing.T) {
	denies(t, api.ErrCycle,
		"#100="+tower("(+ #100#", "#100#", 12, func(held string) string { return "(+ " + held + " #100# " + held + ")" }),
		"#100=(+ 1 . "+tower("(2", "#100#", 10, func(held string) string { return "(" + held + " . " + held + ")" })+")",
		"'#100="+tower("#(", "#100#", 15, func(held string) string { return "#(" + held + " " + held + ")" }))
}

// Whatever is reckoned, there is an answer or an error, and not both.
func TestReckonEveryByte(t *testing.T) {
	for c := range 256 {
		one := string([]byte{byte(c)})
		for _, ahead := range []string{"", "1", "(+ 1 ", "'", "#", "#\\", "\"", "(/ 1 0)", "1 ;", "1 #|", "(+ 1 2) "} {
			for _, behind := range []string{"", ")", " 2)", "\"", "|#", "\n"} {
				holdsReckoned(t, ahead+one+behind)
			}
		}
	}
	for _, piece := range []string{"(", "#(", "'", "#;", "#|", "\"", "\\", "#0=", "#", "9", "a", "()", "\x00", "(+ ", "(if ", "(/ 1 "} {
		holdsReckoned(t, strings.Repeat(piece, 400)[:400])
		denies(t, api.ErrLong, strings.Repeat(piece, 1<<20))
	}
}

// holdsReckoned asks of any text what must hold of every one.
func holdsReckoned(t *testing.T, text string) {
	t.Helper()
	got, errno := Reckon(text)
	if errno == api.OK && got == "" || errno != api.OK && got != "" || len(got) > api.MaxText {
		t.Errorf("Reckon(%.60q) = %.60q, error %d", text, got, errno)
	}
	nodes, end, wrong := Read(text, api.MaxDepth)
	switch {
	case wrong != api.OK:
		denies(t, wrong, text)
	case end == len(text) && errno != api.ErrCycle && len(text) < api.MaxText:
		written, long := Write(nodes, api.Simple)
		quoted, quotedErrno := Reckon("'" + text)
		if quotedErrno != api.ErrDeep && quotedErrno != api.ErrLong && (quoted != written || quotedErrno != long) {
			t.Errorf("Reckon(%.60q) = %.60s, error %d; Write gives %.60s, error %d", "'"+text, quoted, quotedErrno, written, long)
		}
	}
}

func TestReckonLeavesNoSender(t *testing.T) {
	before := runtime.NumGoroutine()
	for range 500 {
		Reckon("(+ 1 2")
		Reckon("(+ 1 2) ) a b c")
		Reckon("#0=(+ . #0#)")
		Reckon("(+ a b)")
		Reckon("(+ 1 2) \xff a")
	}
	for range 100 {
		if runtime.NumGoroutine() <= before {
			return
		}
		time.Sleep(10 * time.Millisecond)
	}
	t.Errorf("%d goroutines, %d ahead of the calls", runtime.NumGoroutine(), before)
}

// What is done with the bytes of a text behind the call changes no answer, and
// the call leaves them as they are.
func TestReckonKeepsNothing(t *testing.T) {
	for given, want := range map[string]string{"'symbol": "symbol", "\"text\"": "\"text\"", "'(sym \"t\" . 5)": "(sym \"t\" . 5)", "(if #t 'yes 'no)": "yes"} {
		bytes := []byte(given + ";room")
		got, _ := Reckon(unsafe.String(&bytes[0], len(given)))
		if string(bytes) != given+";room" {
			t.Errorf("Reckon has written into %q", given)
		}
		for i := range bytes {
			bytes[i] = 'x'
		}
		if got != want {
			t.Errorf("Reckon(%q) = %s behind a change of the text", given, got)
		}
		again, _ := Reckon(given)
		if unsafe.StringData(got) == unsafe.StringData(again) {
			t.Errorf("two answers to %q share their memory", given)
		}
	}
}

func TestReckonAtTheSameTime(t *testing.T) {
	var callers sync.WaitGroup
	for range 8 {
		callers.Add(1)
		go func() {
			defer callers.Done()
			for range 100 {
				gives(t, map[string]string{"(+ #0=(* 2 3) #0#)": "12", "'(#0=(a) #0#)": "((a) (a))"})
				denies(t, api.ErrCycle, "'#0=(a . #0#)")
				denies(t, api.ErrZero, "(+ #0=(* 2 0) (/ #0#))")
			}
		}()
	}
	callers.Wait()
}

// What one call has put and reckoned, no later one finds.
func TestReckonForgets(t *testing.T) {
	gives(t, map[string]string{"(+ #0=(* 2 3) #0#)": "12"})
	denies(t, api.ErrLabel, "(+ 1 #0#)")
	gives(t, map[string]string{"(+ #0=(* 2 4) #0#)": "16"})
}
