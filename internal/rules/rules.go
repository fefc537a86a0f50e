// Package rules draws rules of cards and locations without faults, for the tests of the layers.
package rules

import (
	"strings"

	"trident/api"
	"trident/internal/grammar"
	"trident/lint"
	"trident/syntax"
	"trident/unparse"
)

// Draw returns rules that lint accepts, without positions: those of so many texts of up to
// about room tokens, of cards and of locations, less those of texts that are too deep or too
// long. A call of draw returns a number from 0 to n-1.
func Draw(draw func(n int) int, texts, room int) []api.Rule {
	valid := grammar.Valid()
	var list []api.Rule
	for n := range texts {
		symbol := "card"
		if n%2 == 1 {
			symbol = "place"
		}
		file, fault := syntax.Parse(strings.Join(valid.Draw(symbol, draw, n%room, n%7), " "))
		if fault.E != api.OK || lint.Check(file).E != api.OK {
			continue
		}
		file = unparse.Strip(file)
		for _, c := range file.Cards {
			list = append(list, c.Rules...)
		}
		for _, p := range file.Places {
			list = append(list, p.Rules...)
		}
	}
	return list
}
