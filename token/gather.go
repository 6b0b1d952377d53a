package token

import "sync"

// Gather is all tokens of a text, up to its end or to the first place that is
// wrong: the last one, and no other, is of the kind End or Wrong.
func Gather(text string) []Token {
	tokens := make(chan Token)
	var sender sync.WaitGroup
	sender.Add(1)
	go func() {
		defer sender.Done()
		send(text, tokens)
	}()
	var gathered []Token
	for t := range tokens {
		gathered = append(gathered, t)
	}
	// The channel is closed a moment before the sender has ended.
	sender.Wait()
	return gathered
}

func send(text string, tokens chan<- Token) {
	defer close(tokens)
	at := 0
	for {
		t := next(text, at)
		tokens <- t
		if t.last() {
			return
		}
		at = t.End
	}
}
