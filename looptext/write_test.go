package looptext

import (
	"math"
	"strings"
	"testing"

	"looptext/api"
)

// P7: the text of each kind of node, and the errors in their order.

func TestWriteAtoms(t *testing.T) {
	for want, n := range map[string]api.Node{
		"a": symbol("a"), "...": symbol("..."), "+": symbol("+"), "-": symbol("-"), "+a": symbol("+a"), ".5": symbol(".5"), "aZ09+-*/<>=?!._": symbol("aZ09+-*/<>=?!._"),
		"0": number(0, 1), "5": number(5, 1), "-5": number(-5, 1), "1/2": number(1, 2), "-3/2": number(-3, 2), "1000000": number(1000000, 1), "-1000000/999999": number(-1000000, 999999), "-1/1000000": number(-1, 1000000),
		"#t": truth(1), "#f": truth(0),
		"#\\!": char(33), "#\\~": char(126), "#\\a": char('a'), "#\\Z": char('Z'), "#\\(": char('('), "#\\)": char(')'), "#\\\\": char('\\'), "#\\\"": char('"'), "#\\;": char(';'), "#\\#": char('#'), "#\\5": char('5'),
		"#\\space": char(32), "#\\newline": char(10), "#\\tab": char(9), "#\\nul": char(0), "#\\delete": char(127), "#\\escape": char(27),
		"()": none, "#()": vector(),
	} {
		writesAlike(t, list(n), want)
	}
	for code := 33; code <= 126; code++ {
		writesAlike(t, list(char(code)), "#\\"+string(rune(code)))
	}
}

func TestWriteTexts(t *testing.T) {
	for given, want := range map[string]string{
		"": `""`, "a b": `"a b"`, "\\": `"\\"`, "\"": `"\""`, "\n": `"\n"`, "\t": `"\t"`, "\\n": `"\\n"`, "\"\\\n\t\"": `"\"\\\n\t\""`, "a\nb": `"a\nb"`,
		"\x00\r\x7f": "\"\x00\r\x7f\"", "\xff\x80": "\"\xff\x80\"", "é": `"é"`, "(;#|'": `"(;#|'"`,
	} {
		writesAlike(t, list(text(given)), want)
	}
	for c := range 256 {
		one := string([]byte{byte(c)})
		if strings.Contains("\\\"\n\t", one) {
			continue
		}
		writesAlike(t, list(text(one)), "\""+one+"\"")
	}
}

func TestWriteListsAndVectors(t *testing.T) {
	a, b, c := symbol("a"), symbol("b"), symbol("c")
	for want, nodes := range map[string][]api.Node{
		"(a)":             list(pair(1, 2), a, none),
		"(a . b)":         list(pair(1, 2), a, b),
		"(a b)":           list(pair(1, 2), a, pair(3, 4), b, none),
		"(a b . c)":       list(pair(1, 2), a, pair(3, 4), b, c),
		"((a) b)":         list(pair(1, 4), pair(2, 3), a, none, pair(5, 6), b, none),
		"((a . b) . c)":   list(pair(1, 4), pair(2, 3), a, b, c),
		"(())":            list(pair(1, 2), none, none),
		"(() . b)":        list(pair(1, 2), none, b),
		"((()))":          list(pair(1, 4), pair(2, 3), none, none, none),
		"(a . #())":       list(pair(1, 2), a, vector()),
		"(a . #(b))":      list(pair(1, 2), a, vector(3), b),
		"(a . \"t\")":     list(pair(1, 2), a, text("t")),
		"(a . 1/2)":       list(pair(1, 2), a, number(1, 2)),
		"(a . #f)":        list(pair(1, 2), a, truth(0)),
		"(a . #\\nul)":    list(pair(1, 2), a, char(0)),
		"#(a)":            list(vector(1), a),
		"#(a b c)":        list(vector(1, 2, 3), a, b, c),
		"#(() #() (a))":   list(vector(1, 2, 3), none, vector(), pair(4, 5), a, none),
		"(quote a)":       list(pair(1, 2), symbol("quote"), pair(3, 4), a, none),
		"(quote . a)":     list(pair(1, 2), symbol("quote"), a),
		"(#() . #(b ()))": list(pair(1, 2), vector(), vector(3, 4), b, none),
	} {
		writesAlike(t, nodes, want)
	}
	twenty := make([]int, 20)
	for i := range twenty {
		twenty[i] = 1
	}
	writesAlike(t, list(vector(twenty...), a), "#("+strings.Repeat("a ", 19)+"a)")
}

// The numbers of the nodes are of no weight, but for the root's.
func TestWriteInAnyOrder(t *testing.T) {
	a, b := symbol("a"), symbol("b")
	writesAlike(t, list(pair(4, 2), none, pair(3, 1), b, a), "(a b)")
	writesAlike(t, list(pair(2, 1), none, a), "(a)")
	writesAlike(t, list(pair(1, 2), a, pair(1, 3), none), "(a a)")
	writesAlike(t, list(pair(1, 2), none, pair(1, 1)), "(() ())")
	writesAlike(t, list(vector(1, 1, 1), number(1, 2)), "#(1/2 1/2 1/2)")
	writesAlike(t, list(a, pair(0, 2), none), "a")
}

func TestWriteOfWhatIsNotReached(t *testing.T) {
	writesAlike(t, list(none, pair(1, 1), vector(2, 0)), "()")
	writesAlike(t, list(pair(1, 2), symbol("a"), none, pair(0, 1), pair(1, 0), vector(2, 2, 0)), "(a)")
	writesAlike(t, make([]api.Node, 150), "()")
	for _, n := range wrongNodes() {
		refusesAlways(t, list(none, n), api.ErrGraph)
	}
}

func TestHowLong(t *testing.T) {
	long := strings.Repeat("x", 400)
	writesAlike(t, list(symbol(long)), long)
	refusesAlways(t, list(symbol(long+"x")), api.ErrLong)
	refusesAlways(t, list(symbol(strings.Repeat("x", 1<<22))), api.ErrLong)
	writesAlike(t, list(text(long[:398])), "\""+long[:398]+"\"")
	refusesAlways(t, list(text(long[:399])), api.ErrLong)
	refusesAlways(t, list(text(long)), api.ErrLong)
	writesAlike(t, list(text(strings.Repeat("\n", 199))), "\""+strings.Repeat("\\n", 199)+"\"")
	refusesAlways(t, list(text(strings.Repeat("\n", 199)+"x")), api.ErrLong)
	refusesAlways(t, list(text(strings.Repeat("\\", 400))), api.ErrLong)
	writesAlike(t, list(pair(1, 2), symbol(long[:398]), none), "("+long[:398]+")")
	refusesAlways(t, list(pair(1, 2), symbol(long[:399]), none), api.ErrLong)
	writesAlike(t, list(vector(1), symbol(long[:397])), "#("+long[:397]+")")
	refusesAlways(t, list(vector(1), symbol(long[:398])), api.ErrLong)
	writesAlike(t, list(pair(1, 2), symbol("a"), symbol(long[:394])), "(a . "+long[:394]+")")
	refusesAlways(t, list(pair(1, 2), symbol("a"), symbol(long[:395])), api.ErrLong)
	// With a label of its own a text is shorter than twice.
	twice := list(pair(1, 2), text(long[:197]), pair(1, 3), none)
	refuses(t, twice, api.Simple, api.ErrLong)
	refuses(t, twice, api.Cycles, api.ErrLong)
	writes(t, twice, api.Shared, "(#0=\""+long[:197]+"\" #0#)")
	// The label counts.
	itself := list(pair(1, 0), symbol(long[:389]))
	writes(t, itself, api.Cycles, "#0=("+long[:389]+" . #0#)")
	refuses(t, list(pair(1, 0), symbol(long[:390])), api.Cycles, api.ErrLong)
	refuses(t, list(pair(1, 0), symbol(long[:390])), api.Shared, api.ErrLong)
}

func TestModes(t *testing.T) {
	for _, mode := range []int{-1, 3, 4, math.MinInt, math.MaxInt, 1 << 32, 1<<32 + 1} {
		refuses(t, list(symbol("a")), mode, api.ErrArg)
		refuses(t, nil, mode, api.ErrArg)
		refuses(t, list(symbol("")), mode, api.ErrArg)
		refuses(t, list(pair(0, 0)), mode, api.ErrArg)
	}
}

func TestThingsThatHoldThemselves(t *testing.T) {
	a := symbol("a")
	for _, nodes := range [][]api.Node{
		list(pair(0, 0)), list(pair(0, 1), none), list(pair(1, 0), none), list(vector(0)), list(vector(1, 0), a),
		list(pair(1, 2), a, pair(1, 0)), list(pair(1, 2), a, pair(1, 2)), list(pair(1, 2), pair(1, 2), a), list(vector(1), vector(1)),
		list(vector(1, 2), a, vector(3), pair(2, 1)), list(pair(1, 1), pair(2, 2), vector(1)),
	} {
		refuses(t, nodes, api.Simple, api.ErrCycle)
	}
	// What is not reached may hold itself; what stands in several places does not.
	writes(t, list(a, pair(1, 1), vector(2), pair(4, 4), pair(3, 3)), api.Simple, "a")
	writes(t, list(pair(1, 1), pair(2, 2), a), api.Simple, "((a . a) a . a)")
	writes(t, list(vector(1, 1, 2), vector(2), none), api.Simple, "#(#(()) #(()) ())")
}

func TestWhichErrorOfWrite(t *testing.T) {
	long := symbol(strings.Repeat("x", 401))
	refuses(t, list(pair(0, 1), long, truth(2)), api.Simple, api.ErrGraph)
	refuses(t, list(pair(0, 1), long), api.Simple, api.ErrCycle)
	refuses(t, list(pair(1, 0), long), api.Simple, api.ErrCycle)
	refuses(t, list(pair(1, 2), long, pair(2, 2)), api.Simple, api.ErrCycle)
	refuses(t, list(pair(0, 1), long), api.Cycles, api.ErrLong)
	refuses(t, list(pair(0, 1), long), api.Shared, api.ErrLong)
	refuses(t, list(long, truth(2)), api.Shared, api.ErrGraph)
	refuses(t, list(long, pair(1, 1)), api.Simple, api.ErrLong)
	writes(t, list(none, long), api.Simple, "()")
}
