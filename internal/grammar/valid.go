package grammar

import (
	"slices"
	"strings"

	"trident/api"
)

// Valid returns the grammar of the texts of cards and locations without faults (chapter
// 13), except that names may be there twice and rules too long.
func Valid() Grammar {
	text := Cards + `
card = "card" NAME "cost" cost "power" power "{" ` + upTo(api.MaxRules, "rulecard") + ` "}" ;
cost = "0" | "1" | "5" | "9" ;
power = "0" | "2" | "-" "3" | "20" | "-" "20" ;
place = "place" NAME "{" ` + upTo(api.MaxRules, "ruleplace") + ` "}" ;
rulecard = "reveal" "{" actscard "}" | "death" "{" actscard "}" | "moved" "{" actscard "}" | "end" "{" actscard "}"
	| "always" number "{" actscardalways "}" ;
ruleplace = "reveal" "{" actsplace "}" | "end" "{" actsplace "}" | "enter" "{" actsenter "}" | "always" number "{" actsplacealways "}" ;
number = "1" | "2" | "3" ;
where = "here" | "away" | "lane" number | "anywhere" ;
to = "here" | "left" | "right" | "lane" number ;
`
	for _, k := range kindsOfRules() {
		text += validOf(k)
	}
	return Read(text)
}

// kindOfRule is where acts stand, as a grammar says it: which acts, whose cards, which sels
// and which filters there are, and where the acts of an "each" stand, if there may be one.
type kindOfRule struct {
	name, acts, side, sel, filter, each string
}

const (
	triggered = `"power" sel expr ";" | "set" sel expr ";" | "destroy" sel ";" | "move" sel to ";" | "return" sel ";"
	| "spawn" NAME side to expr ";" | "draw" side expr ";" | "discard" side how ";" | "energy" side expr ";"`
	continuous = `"aura" sel expr ";" | "double" side to ";" | "shield" sel ";" | "bar" side to ";"`
	anySide    = `"mine" | "theirs" | "both"`
)

// kindsOfRules returns where acts may stand.
func kindsOfRules() []kindOfRule {
	return []kindOfRule{
		{"card", triggered, anySide, `"me" |`, `| "not" "me"`, "cardeach"},
		{"cardeach", triggered, anySide, `"me" | "it" |`, `| "not" "me" | "not" "it"`, ""},
		{"cardalways", continuous, anySide, `"me" |`, `| "not" "me"`, ""},
		{"place", triggered, `"both"`, "", "", "placeeach"},
		{"placeeach", triggered, `"both"`, `"it" |`, `| "not" "it"`, ""},
		{"placealways", continuous, `"both"`, "", "", ""},
		{"enter", triggered, anySide, `"it" |`, `| "not" "it"`, "entereach"},
		{"entereach", triggered, anySide, `"it" |`, `| "not" "it"`, ""},
	}
}

// upTo returns the part of a grammar that is a symbol at most n times.
func upTo(n int, symbol string) string {
	return strings.Repeat("[ "+symbol+" ", n) + strings.Repeat("] ", n)
}

// validOf returns the grammar of the acts of a kind of rule, its symbols followed by its
// name.
func validOf(k kindOfRule) string {
	text := `
acts = ` + upTo(api.MaxActs, "act") + `| act act act act act act act ` + upTo(api.MaxActs-7, "act") + `;
act = ` + k.acts + ` | "if" cond block [ "else" block ]
block = < "{" acts "}" > ;
side = ` + k.side + ` ;
sel = ` + k.sel + ` "(" side where ` + upTo(api.MaxFilters, "filter") + ` pick ")" ;
filter = "cost" op signed | "power" op signed | "named" NAME ` + k.filter + ` ;
cond = expr op expr ;
expr = product { "+" product | "-" product } ;
product = factor { "*" factor } ;
factor = signed | < "(" expr ")" > | "count" sel | "sum" sel | "round" | "hand" side | "free" side to ;
`
	own := []string{"acts", "act", "block", "side", "sel", "filter", "cond", "expr", "product", "factor"}
	fields := strings.Split(strings.ReplaceAll(text, "\n", " \n "), " ")
	for i, f := range fields {
		if slices.Contains(own, f) {
			fields[i] = f + k.name
		}
	}
	text = strings.Join(fields, " ")
	if k.each != "" {
		return strings.Replace(text, " \n block", ` | "each" sel`+k.name+` block`+k.each+" ; \n block", 1)
	}
	return strings.Replace(text, " \n block", " ; \n block", 1)
}
