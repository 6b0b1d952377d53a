package reckon

import "looptext/datum"

// parts is the symbol with which a list begins, and what the list holds behind
// it; false if it begins with no symbol, or does not end as a list does.
func parts(p *datum.Pair) (string, []datum.Datum, bool) {
	head, ok := datum.Meant(p.First).(datum.Symbol)
	if !ok {
		return "", nil, false
	}
	var held []datum.Datum
	rest := p.Rest
	for {
		switch x := datum.Meant(rest).(type) {
		case *datum.Pair:
			held = append(held, x.First)
			rest = x.Rest
		case datum.Nil:
			return head.Name, held, true
		default:
			return "", nil, false
		}
	}
}

// canHold holds if a list that begins with head can hold so many things.
func canHold(head string, many int) bool {
	switch head {
	case "+", "*":
		return true
	case "-", "/":
		return many >= 1
	case "quote":
		return many == 1
	case "=", "<":
		return many == 2
	case "if":
		return many == 3
	}
	return false
}
