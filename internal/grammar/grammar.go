// Package grammar reads grammars and draws texts of them, for the tests of the layers.
package grammar

import (
	"slices"
	"strings"
)

// Cards is the grammar of the texts of cards and locations (chapter 11). What stands
// between < and > is a block or an expr in parentheses, which is one level deeper.
const Cards = `
file = { card | place } ;
card = "card" NAME "cost" INT "power" signed "{" { rule } "}" ;
place = "place" NAME "{" { rule } "}" ;
rule = when "{" { act } "}" ;
when = "reveal" | "death" | "moved" | "end" | "enter" | "always" INT ;
acts = { act } ;
act = "power" sel expr ";" | "set" sel expr ";" | "destroy" sel ";" | "move" sel to ";" | "return" sel ";"
	| "spawn" NAME side to expr ";" | "draw" side expr ";" | "discard" side how ";" | "energy" side expr ";"
	| "aura" sel expr ";" | "double" side to ";" | "shield" sel ";" | "bar" side to ";"
	| "if" cond block [ "else" block ] | "each" sel block ;
block = < "{" { act } "}" > ;
sel = "me" | "it" | "(" side where { filter } pick ")" ;
side = "mine" | "theirs" | "both" ;
where = "here" | "away" | "lane" INT | "anywhere" ;
filter = "cost" op signed | "power" op signed | "named" NAME | "not" "me" | "not" "it" ;
pick = "all" | "first" | "last" | "weakest" | "strongest" ;
to = "here" | "left" | "right" | "lane" INT ;
how = "first" | "last" | "cheapest" | "costliest" ;
cond = expr op expr ;
op = "<" | "<=" | "=" | "!=" | ">=" | ">" ;
expr = product { "+" product | "-" product } ;
product = factor { "*" factor } ;
factor = signed | < "(" expr ")" > | "count" sel | "sum" sel | "round" | "hand" side | "free" side to ;
signed = [ "-" ] INT ;
`

// The kinds of parts of a grammar.
const (
	// A Token stands in quotes, or in capital letters if it is one of several: INT is
	// any number, NEGATIVE one with a mark - before it, NAME any name.
	Token = iota
	Symbol
	Sequence
	Choice
	Repeated
	Optional
	Deeper
)

// Part is a part of a grammar: a token or a symbol with its text, or one that has parts.
type Part struct {
	Kind  int
	Text  string
	Parts []Part
}

// Grammar is what its symbols stand for.
type Grammar map[string]Part

// Read returns the grammar that the text defines. It has blanks between all that it
// is written of.
func Read(text string) Grammar {
	g := Grammar{}
	rest := strings.Fields(text)
	for len(rest) > 0 {
		symbol := rest[0]
		g[symbol], rest = readChoice(rest[2:], ";")
	}
	return g
}

// readChoice reads what ends with that field, and returns what stands behind it.
func readChoice(rest []string, end string) (Part, []string) {
	all := Part{Kind: Choice, Parts: []Part{{Kind: Sequence}}}
	for rest[0] != end {
		field := rest[0]
		rest = rest[1:]
		if field == "|" {
			all.Parts = append(all.Parts, Part{Kind: Sequence})
			continue
		}
		part := Part{Kind: Symbol, Text: field}
		if kind, end := bracket(field); end != "" {
			var inner Part
			inner, rest = readChoice(rest, end)
			part = Part{Kind: kind, Parts: []Part{inner}}
		} else if field == strings.ToUpper(field) || field[0] == '"' {
			part.Kind = Token
		}
		last := &all.Parts[len(all.Parts)-1]
		last.Parts = append(last.Parts, part)
	}
	return all, rest[1:]
}

// bracket returns the kind of what stands in brackets and the closing one, which is
// empty of what is no opening one.
func bracket(open string) (kind int, end string) {
	switch open {
	case "{":
		return Repeated, "}"
	case "[":
		return Optional, "]"
	case "<":
		return Deeper, ">"
	default:
		return Token, ""
	}
}

// writer writes a drawn text of a grammar.
type writer struct {
	grammar Grammar
	draw    func(n int) int
	// room is about how many tokens may still be written, deep how many of 10 choices
	// are of what is deeper.
	room, deep int
	list       []string
}

// Draw returns the tokens of a drawn text of a symbol: of about room tokens, and the
// deeper the more of 10 choices, deep, are of what is deeper. A call of draw returns a
// number from 0 to n-1. The first of several choices should need no others.
func (g Grammar) Draw(symbol string, draw func(n int) int, room, deep int) []string {
	w := writer{grammar: g, draw: draw, room: room, deep: deep}
	w.write(g[symbol])
	return w.list
}

// write writes a part.
func (w *writer) write(p Part) {
	switch p.Kind {
	case Token:
		w.room--
		w.list = append(w.list, w.token(p.Text))
	case Symbol:
		w.write(w.grammar[p.Text])
	case Choice:
		w.write(w.choose(p.Parts))
	case Sequence, Deeper:
		for _, q := range p.Parts {
			w.write(q)
		}
	case Optional:
		if w.draw(2) == 0 {
			w.write(p.Parts[0])
		}
	case Repeated:
		for w.room > 0 && w.draw(3) > 0 {
			w.write(p.Parts[0])
		}
	}
}

// choose returns one of several parts: the first one if there is no more room.
func (w *writer) choose(parts []Part) Part {
	if w.room < 0 {
		return parts[0]
	}
	if w.draw(10) < w.deep {
		for _, p := range parts {
			if slices.ContainsFunc(p.Parts, w.deeper) {
				return p
			}
		}
	}
	return parts[w.draw(len(parts))]
}

// deeper reports whether the part, or what the symbol stands for, is one level deeper.
func (w *writer) deeper(p Part) bool {
	if p.Kind == Symbol {
		p = w.grammar[p.Text].Parts[0].Parts[0]
	}
	return p.Kind == Deeper
}

// token returns a token that the grammar writes so.
func (w *writer) token(text string) string {
	switch text {
	case "INT":
		return w.one("0", "1", "2", "3", "9", "42", "99")
	case "NEGATIVE":
		return w.one("-1", "-2", "-10", "-99")
	case "NAME":
		return w.one("\"A\"", "\"Éé\"", "\"me\"", "\"7\"", "\"-\"")
	default:
		return strings.Trim(text, "\"")
	}
}

// one returns one of several texts.
func (w *writer) one(texts ...string) string {
	return texts[w.draw(len(texts))]
}
