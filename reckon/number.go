package reckon

import (
	"looptext/api"
	"looptext/datum"
	"looptext/ratio"
)

// numbers is what a list holds, reckoned. That all are numbers is looked at
// behind the reckoning of the last one, because an error in that comes first.
func (r *reckoner) numbers(held []datum.Datum) ([]ratio.Ratio, api.Errno) {
	results := make([]datum.Datum, len(held))
	for i, d := range held {
		result, errno := r.reckon(d)
		if errno != api.OK {
			return nil, errno
		}
		results[i] = result
	}
	numbers := make([]ratio.Ratio, len(results))
	for i, result := range results {
		n, ok := result.(datum.Number)
		if !ok {
			return nil, api.ErrOp
		}
		numbers[i] = ratio.Ratio(n)
	}
	return numbers, api.OK
}

func compared(head string, a, b ratio.Ratio) datum.Datum {
	holds := a == b
	if head == "<" {
		holds = a.Below(b)
	}
	if holds {
		return datum.Truth{N: 1}
	}
	return datum.Truth{N: 0}
}

// total is one number made of all of them, each two from the left.
func total(head string, numbers []ratio.Ratio) (datum.Datum, api.Errno) {
	made := start(head)
	if len(numbers) > 1 {
		made, numbers = numbers[0], numbers[1:]
	}
	for _, n := range numbers {
		next, errno := step(head, made, n)
		if errno != api.OK {
			return nil, errno
		}
		made = next
	}
	return datum.Number(made), api.OK
}

// start is what comes of no number, and what is ahead of a single one.
func start(head string) ratio.Ratio {
	if head == "*" || head == "/" {
		return ratio.Ratio{N: 1, D: 1}
	}
	return ratio.Ratio{N: 0, D: 1}
}

func step(head string, a, b ratio.Ratio) (ratio.Ratio, api.Errno) {
	var result ratio.Ratio
	var fits bool
	switch head {
	case "+":
		result, fits = a.Plus(b)
	case "-":
		result, fits = a.Minus(b)
	case "*":
		result, fits = a.Times(b)
	default:
		if b.N == 0 {
			return ratio.Ratio{}, api.ErrZero
		}
		result, fits = a.By(b)
	}
	if !fits {
		return ratio.Ratio{}, api.ErrNumber
	}
	return result, api.OK
}
