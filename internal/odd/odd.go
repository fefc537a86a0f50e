// Package odd draws trees of cards and locations that mostly no text has, for tests.
package odd

import (
	"math"

	"trident/api"
)

// Pen draws trees. A call of Draw returns a number from 0 to n-1. The lists of a tree are
// at most so many inside each other as deep says, and have further items behind their ends.
type Pen struct {
	Draw func(n int) int
}

// File returns a file.
func (p Pen) File(deep int) api.File {
	return api.File{Cards: list(p, deep, p.Card), Places: list(p, deep, p.Place)}
}

// Card returns a card.
func (p Pen) Card(deep int) api.Card {
	return api.Card{
		Name: p.text(), Cost: p.number(), Power: p.number(), Line: p.number(), Col: p.number(),
		Rules: list(p, deep, p.Rule),
	}
}

// Place returns a location.
func (p Pen) Place(deep int) api.Place {
	return api.Place{Name: p.text(), Line: p.number(), Col: p.number(), Rules: list(p, deep, p.Rule)}
}

// Rule returns a rule.
func (p Pen) Rule(deep int) api.Rule {
	return api.Rule{When: p.number(), Stratum: p.number(), Line: p.number(), Col: p.number(), Acts: p.Acts(deep)}
}

// Acts returns acts.
func (p Pen) Acts(deep int) []api.Act {
	return list(p, deep, p.act)
}

// act returns an act.
func (p Pen) act(deep int) api.Act {
	return api.Act{
		Kind: p.number(), Line: p.number(), Col: p.number(), Sel: p.Sel(deep), Num: p.Expr(deep),
		Side: p.number(), To: p.to(), How: p.number(), Name: p.text(),
		Cond: api.Cond{Op: p.number(), L: p.Expr(deep), R: p.Expr(deep)},
		Then: p.Acts(deep), Else: p.Acts(deep),
	}
}

// Sel returns a sel.
func (p Pen) Sel(deep int) api.Sel {
	return api.Sel{
		Kind: p.number(), Side: p.number(), Where: p.number(), Lane: p.number(),
		Filters: list(p, deep, p.filter), Pick: p.number(),
	}
}

// filter returns a filter.
func (p Pen) filter(int) api.Filter {
	return api.Filter{Kind: p.number(), Op: p.number(), N: p.number(), Name: p.text()}
}

// Expr returns an expr.
func (p Pen) Expr(deep int) api.Expr {
	return api.Expr{
		Kind: p.number(), N: p.number(), Sel: p.Sel(deep), Side: p.number(), To: p.to(),
		Kids: list(p, deep, p.Expr),
	}
}

// to returns a lane.
func (p Pen) to() api.To {
	return api.To{Kind: p.number(), Lane: p.number()}
}

// list returns a list of what draw returns.
func list[T any](p Pen, deep int, draw func(deep int) T) []T {
	if deep == 0 {
		return nil
	}
	length := p.Draw(3)
	var all []T
	for range length + p.Draw(2) {
		all = append(all, draw(deep-1))
	}
	return all[:length]
}

// number returns a number: mostly one of those that are kinds and words.
func (p Pen) number() int {
	if p.Draw(20) > 0 {
		return p.Draw(20) - 2
	}
	return one(p, math.MinInt, math.MinInt+1, -100, 100, 999, math.MaxInt-1, math.MaxInt)
}

// text returns a text that may be none of a name.
func (p Pen) text() string {
	return one(p, "", "A", "Dust Cat", "\"", "\xff\xfe", "a\nb", "( ; )", "é")
}

// one returns one of several values.
func one[T any](p Pen, values ...T) T {
	return values[p.Draw(len(values))]
}
