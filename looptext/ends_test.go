package looptext

import (
	"math"
	"math/rand/v2"
	"runtime"
	"strings"
	"testing"
	"time"

	"looptext/api"
)

// P1: whatever is read, the answer is a graph in order or an error with its place.

func TestShortTexts(t *testing.T) {
	const some = "()'#;\"\\.a01=| \n/"
	var grow func(text string, more int)
	grow = func(text string, more int) {
		holds(t, text, 2)
		if more == 0 || t.Failed() {
			return
		}
		for i := range len(some) {
			grow(text+some[i:i+1], more-1)
		}
	}
	grow("", 4)
}

func TestEveryByte(t *testing.T) {
	for c := range 256 {
		one := string([]byte{byte(c)})
		for _, ahead := range []string{"", "a", "1", "#", "#\\", "#\\a", "#1", "\"", "\"\\", "(a", ";", "#|"} {
			holds(t, ahead+one, 3)
			holds(t, ahead+one+"a)\"", 3)
		}
	}
}

func TestMixedTexts(t *testing.T) {
	pieces := []string{"(", "(", ")", ")", "#(", "'", "#;", " . ", "a ", "b", "\"t\"", "\"\\n\"", "\"", "5 ", "6/4 ", "1/0 ", "1000001 ",
		"#t ", "#\\a", "#\\space", "#0=", "#0#", "#1=", "#1#", "#02#", "#2=(", " ", ";c\n", "#| c |#", "#|", "|#", "\\", "#", "\xff"}
	source := rand.New(rand.NewPCG(1, 2))
	for range 40000 {
		var text strings.Builder
		for range source.IntN(16) {
			text.WriteString(pieces[source.IntN(len(pieces))])
		}
		holds(t, text.String(), source.IntN(6))
	}
}

// holds asks of any text what must hold of every one.
func holds(t *testing.T, text string, depth int) {
	t.Helper()
	nodes, at, errno := Read(text, depth)
	if at < 0 || at > len(text) {
		t.Fatalf("Read(%q, %d): the place %d", text, depth, at)
	}
	switch errno {
	case api.OK:
		if why := disorder(nodes); why != "" {
			t.Errorf("Read(%q, %d) is not in order: %s", text, depth, why)
		}
		// What stands behind is not looked at, and more depth changes nothing.
		reads(t, text[:at], depth, told(nodes), at)
		reads(t, text[:at]+" )\xff", depth, told(nodes), at)
		reads(t, text, depth+1, told(nodes), at)
		reads(t, "\n"+text, depth, told(nodes), at+1)
	case api.ErrEnd:
		fails(t, text, depth, errno, len(text))
	case api.ErrText, api.ErrLabel, api.ErrDeep, api.ErrNumber:
		// All that stands ahead of the place was right, as far as it goes.
		fails(t, text[:at], depth, api.ErrEnd, at)
		fails(t, "\n"+text, depth, errno, at+1)
	default:
		t.Errorf("Read(%q, %d): error %d", text, depth, errno)
	}
}

func TestExtremes(t *testing.T) {
	for _, depth := range []int{-1, 31, math.MinInt, math.MaxInt, math.MinInt32, math.MaxInt32} {
		fails(t, "a", depth, api.ErrArg, 0)
		fails(t, strings.Repeat("(", 401), depth, api.ErrArg, 0)
	}
	fails(t, strings.Repeat("\"", 1<<24), 30, api.ErrLong, 0)
	for _, piece := range []string{"(", "#(", "'", "#;", "#|", "\"", "\\", "#0=", "#", "9", "a", "()", "\x00", "(#;", "'#;"} {
		text := strings.Repeat(piece, 400)[:400]
		_, at, _ := Read(text, 30)
		if at > len(text) {
			t.Errorf("Read(%q): the place %d", text, at)
		}
	}
}

// The section Ways: the sender of tokens has ended when the call answers.
func TestNoSenderIsLeft(t *testing.T) {
	before := runtime.NumGoroutine()
	for range 500 {
		Read("(a b", 1)
		Read("a b c )", 1)
		Read(") a b", 1)
		Read("a \xff", 1)
	}
	for range 100 {
		if runtime.NumGoroutine() <= before {
			return
		}
		time.Sleep(10 * time.Millisecond)
	}
	t.Errorf("%d goroutines, %d ahead of the calls", runtime.NumGoroutine(), before)
}
