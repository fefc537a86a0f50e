package syntax

import (
	"math/rand"
	"slices"
	"strings"
	"testing"

	"trident/api"
	"trident/tokens"
)

// grammar is the grammar of the chapter. What stands between < and > is a block or
// an expr in parentheses, which is one level deeper.
const grammar = `
file = { card | place } ;
card = "card" NAME "cost" INT "power" SIGNED "{" { rule } "}" ;
place = "place" NAME "{" { rule } "}" ;
rule = when "{" { act } "}" ;
when = "reveal" | "death" | "moved" | "end" | "enter" | "always" INT ;
acts = { act } ;
act = "power" sel expr ";" | "set" sel expr ";" | "destroy" sel ";" | "move" sel to ";" | "return" sel ";"
	| "spawn" NAME side to expr ";" | "draw" side expr ";" | "discard" side how ";" | "energy" side expr ";"
	| "aura" sel expr ";" | "double" side to ";" | "shield" sel ";" | "bar" side to ";"
	| "if" cond block [ "else" block ] | "each" sel block ;
block = < "{" { act } "}" > ;
sel = "me" | "it" | "(" side where { filter } pick ")" ;
side = "mine" | "theirs" | "both" ;
where = "here" | "away" | "lane" INT | "anywhere" ;
filter = "cost" op SIGNED | "power" op SIGNED | "named" NAME | "not" "me" | "not" "it" ;
pick = "all" | "first" | "last" | "weakest" | "strongest" ;
to = "here" | "left" | "right" | "lane" INT ;
how = "first" | "last" | "cheapest" | "costliest" ;
cond = expr op expr ;
op = "<" | "<=" | "=" | "!=" | ">=" | ">" ;
expr = product { "+" product | "-" product } ;
product = factor { "*" factor } ;
factor = SIGNED | < "(" expr ")" > | "count" sel | "sum" sel | "round" | "hand" side | "free" side to ;
SIGNED = [ "-" ] INT ;
`

// The kinds of parts of the grammar.
const (
	token = iota // with that text
	symbol
	sequence
	choice
	repeated
	optional
	deeper
)

// part is a part of the grammar.
type part struct {
	kind  int
	text  string
	parts []part
}

// readGrammar returns the definitions of the symbols of the grammar.
func readGrammar() map[string]part {
	symbols := map[string]part{}
	rest := strings.Fields(grammar)
	for len(rest) > 0 {
		name := rest[0]
		symbols[name], rest = readChoice(rest[2:], ";")
	}
	return symbols
}

// readChoice reads what ends with that field, and returns what stands behind it.
func readChoice(rest []string, end string) (part, []string) {
	all := part{kind: choice, parts: []part{{kind: sequence}}}
	brackets := map[string]struct {
		kind int
		end  string
	}{"{": {repeated, "}"}, "[": {optional, "]"}, "<": {deeper, ">"}}
	for rest[0] != end {
		field := rest[0]
		rest = rest[1:]
		last := &all.parts[len(all.parts)-1]
		bracket, opens := brackets[field]
		switch {
		case field == "|":
			all.parts = append(all.parts, part{kind: sequence})
		case opens:
			var inner part
			inner, rest = readChoice(rest, bracket.end)
			last.parts = append(last.parts, part{kind: bracket.kind, parts: []part{inner}})
		case strings.HasPrefix(field, "\"") || field == "INT" || field == "NAME":
			last.parts = append(last.parts, part{kind: token, text: field})
		default:
			last.parts = append(last.parts, part{kind: symbol, text: field})
		}
	}
	return all, rest[1:]
}

// judge finds out where tokens leave the grammar, by trying all that it offers.
type judge struct {
	symbols map[string]part
	list    []api.Tok
	// far is the last token at which all that was tried ended, deep the last one that
	// was too deep.
	far, deep int
}

// fits reports whether the token is the one that the grammar writes so.
func fits(tok api.Tok, text string) bool {
	switch tok.Kind {
	case api.TInt:
		return text == "INT"
	case api.TName:
		return text == "NAME"
	default:
		return text == "\""+tok.Text+"\""
	}
}

// ends returns where the part may end that begins at one of those tokens.
func (j *judge) ends(p part, begins []int, depth int) []int {
	var all []int
	if len(begins) == 0 {
		return all
	}
	switch p.kind {
	case token:
		for _, i := range begins {
			if fits(j.list[i], p.text) {
				all = append(all, i+1)
			} else {
				j.far = max(j.far, i)
			}
		}
	case symbol:
		return j.ends(j.symbols[p.text], begins, depth)
	case sequence:
		for _, q := range p.parts {
			begins = j.ends(q, begins, depth)
		}
		return begins
	case choice:
		for _, q := range p.parts {
			all = append(all, j.ends(q, begins, depth)...)
		}
	case repeated:
		for len(begins) > 0 {
			all = append(all, begins...)
			begins = j.ends(p.parts[0], begins, depth)
		}
	case optional:
		all = append(slices.Clone(begins), j.ends(p.parts[0], begins, depth)...)
	case deeper:
		return j.ends(p.parts[0], j.allowed(p, begins, depth), depth+1)
	}
	slices.Sort(all)
	return slices.Compact(all)
}

// allowed returns those tokens at which the part, which is one level deeper, may begin:
// none of them if it is too deep.
func (j *judge) allowed(p part, begins []int, depth int) []int {
	if depth < deepest {
		return begins
	}
	first := p.parts[0].parts[0].parts[0]
	for _, i := range begins {
		if fits(j.list[i], first.text) {
			j.deep = max(j.deep, i)
		}
		j.far = max(j.far, i)
	}
	return nil
}

// judged returns the fault that the text has as a symbol of the grammar.
func judged(symbols map[string]part, name, s string) api.Fault {
	list, fault := tokens.Scan(s)
	if fault.E != api.OK {
		return fault
	}
	j := &judge{symbols: symbols, list: list, far: -1, deep: -1}
	for _, i := range j.ends(symbols[name], []int{0}, 0) {
		if list[i].Kind == api.TEnd {
			return api.Fault{}
		}
		j.far = max(j.far, i)
	}
	tok := list[j.far]
	switch {
	case j.deep == j.far:
		return at(api.ErrDepth, tok.Line, tok.Col)
	case tok.Kind == api.TEnd:
		return at(api.ErrEnd, tok.Line, tok.Col)
	default:
		return at(api.ErrToken, tok.Line, tok.Col)
	}
}

// checkJudged checks the faults of a text as an expr, as acts and as a file.
func checkJudged(t *testing.T, symbols map[string]part, s string) {
	t.Helper()
	checkFault(t, "as an expr", s, Expr, judged(symbols, "expr", s))
	checkFault(t, "as acts", s, Acts, judged(symbols, "acts", s))
	checkFault(t, "as a file", s, Parse, judged(symbols, "file", s))
	if t.Failed() {
		t.FailNow()
	}
}

// P11.1 and P11.2: the grammar of the chapter.

func TestGrammarOfTheTexts(t *testing.T) {
	symbols := readGrammar()
	for _, c := range exprs {
		checkJudged(t, symbols, c.s)
	}
	for _, c := range blocks {
		checkJudged(t, symbols, c.s)
	}
	for _, c := range files {
		checkJudged(t, symbols, c.s)
	}
	for _, list := range [][]wrong{wrongExprs, wrongActs, wrongFiles, spoils} {
		for _, w := range list {
			checkJudged(t, symbols, w.s)
		}
	}
}

// writer writes drawn texts of the grammar.
type writer struct {
	symbols map[string]part
	draws   *rand.Rand
	// room is about how many tokens may still be written, deep how many of 10 choices
	// are the deepest one.
	room, deep int
	list       []string
}

// write writes a part. The first of several choices needs no further room.
func (w *writer) write(p part) {
	switch p.kind {
	case token:
		w.room--
		w.list = append(w.list, w.token(p.text))
	case symbol:
		w.write(w.symbols[p.text])
	case choice:
		w.write(w.choose(p.parts))
	case sequence, deeper:
		for _, q := range p.parts {
			w.write(q)
		}
	case optional:
		if w.draws.Intn(2) == 0 {
			w.write(p.parts[0])
		}
	case repeated:
		for w.room > 0 && w.draws.Intn(3) > 0 {
			w.write(p.parts[0])
		}
	}
}

// choose returns one of several parts.
func (w *writer) choose(parts []part) part {
	if w.room < 0 {
		return parts[0]
	}
	if w.draws.Intn(10) < w.deep {
		for _, p := range parts {
			if slices.ContainsFunc(p.parts, func(q part) bool { return q.kind == deeper || q.text == "block" }) {
				return p
			}
		}
	}
	return parts[w.draws.Intn(len(parts))]
}

// token returns a token that the grammar writes so.
func (w *writer) token(text string) string {
	switch text {
	case "INT":
		return []string{"0", "1", "2", "3", "9", "42", "99"}[w.draws.Intn(7)]
	case "NAME":
		return []string{"\"A\"", "\"Éé\"", "\"me\"", "\"7\"", "\"-\""}[w.draws.Intn(5)]
	default:
		return strings.Trim(text, "\"")
	}
}

// written returns the tokens of a drawn text of a symbol.
func written(symbols map[string]part, draws *rand.Rand, name string, room, deep int) []string {
	w := &writer{symbols: symbols, draws: draws, room: room, deep: deep}
	w.write(symbols[name])
	return w.list
}

func TestDrawnTextsOfTheGrammar(t *testing.T) {
	symbols := readGrammar()
	draws := rand.New(rand.NewSource(11))
	for n := range 2000 {
		for _, name := range []string{"expr", "acts", "file"} {
			list := written(symbols, draws, name, n%60, 0)
			checkJudged(t, symbols, strings.Join(list, " "))
		}
	}
}

func TestDrawnDeepTextsOfTheGrammar(t *testing.T) {
	symbols := readGrammar()
	draws := rand.New(rand.NewSource(112))
	faults := map[api.Errno]int{}
	for n := range 2000 {
		for _, name := range []string{"expr", "acts", "file"} {
			s := strings.Join(written(symbols, draws, name, n%100, 4+n%6), " ")
			checkJudged(t, symbols, s)
			faults[judged(symbols, name, s).E]++
		}
	}
	if faults[api.OK] < 100 || faults[api.ErrDepth] < 100 || len(faults) > 2 {
		t.Errorf("the faults of the deep texts are %v", faults)
	}
}

// telling are tokens of all kinds: all words and marks of the grammar, others, and
// names and numbers.
func telling() []string {
	list := []string{"x", "lanes", "A", "0", "7", "\"me\"", "\"A\"", "\"-\""}
	for _, field := range strings.Fields(grammar) {
		if text := strings.Trim(field, "\""); text != field && !slices.Contains(list, text) {
			list = append(list, text)
		}
	}
	return list
}

// Texts of the grammar with one token changed, left out or added, and cut off.
func TestSpoiledTextsOfTheGrammar(t *testing.T) {
	symbols := readGrammar()
	draws := rand.New(rand.NewSource(113))
	others := telling()
	for n := range 500 {
		name := []string{"expr", "acts", "file"}[n%3]
		list := written(symbols, draws, name, n%40, n%8)
		for i := range list {
			other := others[draws.Intn(len(others))]
			changed := slices.Clone(list)
			changed[i] = other
			checkJudged(t, symbols, strings.Join(changed, " "))
			checkJudged(t, symbols, strings.Join(slices.Delete(slices.Clone(list), i, i+1), " "))
			checkJudged(t, symbols, strings.Join(slices.Insert(slices.Clone(list), i, other), " "))
			checkJudged(t, symbols, strings.Join(list[:i], " "))
		}
	}
}

// Every token behind every beginning of a text that has everything in it.
func TestEveryTokenBehindEveryBeginning(t *testing.T) {
	symbols := readGrammar()
	others := telling()
	for _, s := range []string{
		"count me - - 3 * ( sum ( mine here cost < - 1 power != 2 named \"A\" not me not it all ) + hand mine ) - free both lane 2 * free theirs left + round",
		"power me 1 ; set it - 2 ; destroy me ; move it left ; return ( theirs lane 1 first ) ; spawn \"A\" mine lane 2 3 ; draw both 1 ; discard mine cheapest ; energy theirs 2 ;",
		"if 1 < ( 2 ) { aura me 1 ; } else { if 1 = 2 { } } each it { shield me ; } double mine right ; bar both here ;",
		"card \"A\" cost 1 power - 2 { reveal { } always 1 { destroy me ; } } place \"B\" { enter { } end { } } card \"C\" cost 1 power 2 { }",
	} {
		list := strings.Fields(s)
		for i := range len(list) + 1 {
			for _, other := range others {
				checkJudged(t, symbols, strings.Join(list[:i], " ")+" "+other)
			}
		}
	}
}

// Short texts of telling tokens, all of them.
func TestShortTexts(t *testing.T) {
	symbols := readGrammar()
	for _, c := range []struct {
		most int
		list []string
	}{
		{6, []string{"1", "-", "*", "(", ")"}},
		{4, []string{"count", "me", "(", "mine", "here", "all", ")", "-"}},
		{5, []string{"if", "1", "<", "{", "}", "else"}},
		{5, []string{"each", "it", "{", "}", "destroy", ";"}},
		{5, []string{"place", "\"A\"", "{", "}", "end", "card"}},
	} {
		eachText(c.list, c.most, "", func(s string) {
			checkJudged(t, symbols, s)
		})
	}
}

// eachText calls f with every text of at most that many of these tokens behind others.
func eachText(list []string, most int, before string, f func(string)) {
	f(before)
	if most > 0 {
		for _, text := range list {
			eachText(list, most-1, before+text+" ", f)
		}
	}
}
