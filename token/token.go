// Package token cuts a text into its tokens.
package token

import "looptext/api"

// Kind tells the tokens apart.
type Kind int

const (
	End        Kind = iota // the text ends, or what began is cut off by its end
	Wrong                  // no token fits
	Open                   // (
	Close                  // )
	Quote                  // '
	OpenVector             // #(
	Pass                   // #;
	Dot                    // .
	Text
	Char
	Put // a label that is put there
	Ask // a label that is asked for
	Truth
	Number
	Symbol
)

// Token is one token, from the byte At up to the byte End.
type Token struct {
	Kind    Kind
	At, End int
	Text    string // what a text stands for; a symbol, as a piece of what is read
	N, D    int    // a number N/D; the code, truth or label
	// Fault is what is wrong with a number's worth. It is not told at once,
	// because a number that cannot stand where it does is wrong for that first.
	Fault api.Errno
}

// last holds if no token can follow.
func (t Token) last() bool { return t.Kind == End || t.Kind == Wrong }

func endOf(text string) Token { return Token{Kind: End, At: len(text), End: len(text)} }

func wrong(at int) Token { return Token{Kind: Wrong, At: at, End: at} }
