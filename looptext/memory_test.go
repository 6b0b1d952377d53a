package looptext

import (
	"strings"
	"sync"
	"testing"
	"unsafe"

	"looptext/api"
)

// P2: an answer is new memory, and hangs on the arguments alone.

const manyThings = "#0=(a #(b #1=\"text\" #1# #2=sym #2#) () #() 'q #3=(6/4 . #3#) . #0#)"

func TestAnswersAreTheCallers(t *testing.T) {
	first, end, _ := Read(manyThings, 9)
	want := told(first)
	second, _, _ := Read(manyThings, 9)
	spoil(first)
	if told(second) != want {
		t.Errorf("an answer was changed by writing into another one: %s", told(second))
	}
	reads(t, manyThings, 9, want, end)
}

// spoil writes into all of an answer, and into its spare room.
func spoil(nodes []api.Node) {
	for _, n := range nodes {
		subs := n.Subs[:cap(n.Subs)]
		for i := range subs {
			subs[i] = -9
		}
	}
	nodes = nodes[:cap(nodes)]
	for i := range nodes {
		nodes[i] = api.Node{Kind: -9}
	}
}

func TestListsShareNothing(t *testing.T) {
	nodes, _, _ := Read(manyThings, 9)
	for i, n := range nodes {
		subs := n.Subs[:cap(n.Subs)]
		for k := range subs {
			subs[k] = -i
		}
	}
	for i, n := range nodes {
		for _, sub := range n.Subs[:cap(n.Subs)] {
			if sub != -i {
				t.Fatalf("the Subs of node %d share memory with those of node %d", i, -sub)
			}
		}
	}
}

func TestNothingOfTheTextIsKept(t *testing.T) {
	text := strings.Clone(manyThings)
	start := uintptr(unsafe.Pointer(unsafe.StringData(text)))
	nodes, _, _ := Read(text, 9)
	for i, n := range nodes {
		at := uintptr(unsafe.Pointer(unsafe.StringData(n.Text)))
		if n.Text != "" && at >= start && at < start+uintptr(len(text)) {
			t.Errorf("the Text of node %d (%q) is a piece of what was handed in", i, n.Text)
		}
	}
}

func TestCallsAtTheSameTime(t *testing.T) {
	nodes, end, _ := Read(manyThings, 9)
	want := told(nodes)
	var callers sync.WaitGroup
	for range 8 {
		callers.Add(1)
		go func() {
			defer callers.Done()
			for range 100 {
				reads(t, manyThings, 9, want, end)
				fails(t, "(#0=a #0=b)", 9, api.ErrLabel, 6)
			}
		}()
	}
	callers.Wait()
}

// What one call has put, no later one finds.
func TestLabelsAreForgotten(t *testing.T) {
	reads(t, "#0=(a)", 9, `pair[1 2] symbol"a" nil`, 6)
	fails(t, "(#0#)", 9, api.ErrLabel, 1)
	reads(t, "#0=(a)", 9, `pair[1 2] symbol"a" nil`, 6)
}
