package syntax

import (
	"math/rand"
	"strconv"
	"strings"
	"testing"

	"trident/api"
)

// pen draws trees and writes their texts, with drawn blanks and comments.
type pen struct {
	draws     *rand.Rand
	text      strings.Builder
	line, col int
	last      byte
	// nodes is how many acts may still be drawn.
	nodes int
}

// newPen returns a pen at the beginning of a text.
func newPen(draws *rand.Rand, nodes int) *pen {
	return &pen{draws: draws, line: 1, col: 1, nodes: nodes}
}

// write writes what is no token, and counts its lines and columns.
func (p *pen) write(s string) {
	p.text.WriteString(s)
	for _, r := range s {
		p.col++
		if r == '\n' {
			p.line++
			p.col = 1
		}
	}
}

// small and digit are what would be one token with another of their kind.
func small(b byte) bool { return 'a' <= b && b <= 'z' }
func digit(b byte) bool { return '0' <= b && b <= '9' }

// gap writes blanks and comments, or nothing where the next token needs no gap.
func (p *pen) gap(next byte) {
	needed := small(p.last) && small(next) || digit(p.last) && digit(next)
	if needed || p.draws.Intn(2) == 0 {
		p.write(gaps[p.draws.Intn(len(gaps))])
	}
}

// put writes tokens, and returns where the first of them begins.
func (p *pen) put(toks ...string) (line, col int) {
	for i, tok := range toks {
		p.gap(tok[0])
		if i == 0 {
			line, col = p.line, p.col
		}
		p.write(tok)
		p.last = tok[len(tok)-1]
	}
	return line, col
}

// one draws one of several words and writes it, and returns its number, from 1 on.
func (p *pen) one(words []string) int {
	n := p.draws.Intn(len(words))
	p.put(words[n])
	return n + 1
}

// number draws a number and writes it.
func (p *pen) number() int {
	n := p.draws.Intn(100)
	p.put(strconv.Itoa(n))
	return n
}

// signed draws a number with a sign and writes it.
func (p *pen) signed() int {
	if p.draws.Intn(3) > 0 {
		return p.number()
	}
	p.put("-")
	return -p.number()
}

// name draws a name and writes it.
func (p *pen) name() string {
	name := []string{"A", "Wild Hunt", "Éé", "me", "7", "O'Dea-7"}[p.draws.Intn(6)]
	p.put("\"" + name + "\"")
	return name
}

func (p *pen) to() api.To {
	to := api.To{Kind: p.one(tos)}
	if to.Kind == api.ToLane {
		to.Lane = p.number()
	}
	return to
}

func (p *pen) sel() api.Sel {
	sel := api.Sel{Kind: p.one([]string{"me", "it", "(", "("})}
	if sel.Kind < api.SelAll {
		return sel
	}
	sel.Kind = api.SelAll
	sel.Side = p.one(sides)
	sel.Where = p.one(wheres)
	if sel.Where == api.InLane {
		sel.Lane = p.number()
	}
	for range p.draws.Intn(4) {
		sel.Filters = append(sel.Filters, p.filter())
	}
	sel.Pick = p.one(picks)
	p.put(")")
	return sel
}

func (p *pen) filter() api.Filter {
	filter := api.Filter{Kind: 1 + p.draws.Intn(5)}
	switch filter.Kind {
	case api.FCost, api.FPower:
		p.put([]string{"cost", "power"}[filter.Kind-1])
		filter.Op = p.one(ops)
		filter.N = p.signed()
	case api.FNamed:
		p.put("named")
		filter.Name = p.name()
	case api.FNotMe:
		p.put("not", "me")
	case api.FNotIt:
		p.put("not", "it")
	}
	return filter
}

// expr draws an expr, writes it with the parentheses that it needs, which are at most
// room inside each other, and with drawn ones, and returns it.
func (p *pen) expr(room int) api.Expr {
	// A tree of that height never needs more.
	tree := p.tree(p.draws.Intn(min(room, 4) + 1))
	return p.told(tree, false, room)
}

// tree draws what stands in an expr and where, without its leaves, which it does not
// know before it writes them: they are zero.
func (p *pen) tree(height int) api.Expr {
	if height == 0 || p.draws.Intn(5) == 0 {
		return api.Expr{}
	}
	return api.Expr{Kind: api.EBin, N: 1 + p.draws.Intn(3), Kids: []api.Expr{p.tree(height - 1), p.tree(height - 1)}}
}

// height returns how many operators of an expr are inside each other.
func height(e api.Expr) int {
	if e.Kind != api.EBin {
		return 0
	}
	return 1 + max(height(e.Kids[0]), height(e.Kids[1]))
}

// told writes a tree and draws its leaves, in parentheses if it must be.
func (p *pen) told(e api.Expr, must bool, room int) api.Expr {
	if must || room > height(e) && p.draws.Intn(4) == 0 {
		p.put("(")
		e = p.told(e, false, room-1)
		p.put(")")
		return e
	}
	if e.Kind != api.EBin {
		return p.leaf()
	}
	l, r := e.Kids[0], e.Kids[1]
	l = p.told(l, e.N == api.Times && l.Kind == api.EBin && l.N != api.Times, room)
	p.put([]string{"+", "-", "*"}[e.N-1])
	r = p.told(r, r.Kind == api.EBin && (e.N == api.Times || r.N != api.Times), room)
	return api.Expr{Kind: api.EBin, N: e.N, Kids: []api.Expr{l, r}}
}

// leaf draws an expr without operators and writes it.
func (p *pen) leaf() api.Expr {
	switch p.draws.Intn(8) {
	case 0:
		p.put("count")
		return count(p.sel())
	case 1:
		p.put("sum")
		return sum(p.sel())
	case 2:
		p.put("round")
		return round
	case 3:
		p.put("hand")
		return hand(p.one(sides))
	case 4:
		p.put("free")
		side := p.one(sides)
		return free(side, p.to())
	default:
		return num(p.signed())
	}
}

// acts draws acts and writes them.
func (p *pen) acts(room int) []api.Act {
	var list []api.Act
	for p.nodes > 0 && p.draws.Intn(4) > 0 {
		p.nodes--
		list = append(list, p.act(room))
	}
	return list
}

// words are the words of the kinds of acts, from 1 on.
var words = []string{"power", "set", "destroy", "move", "return", "spawn", "draw", "discard", "energy", "if", "each", "aura", "double", "shield", "bar"}

// act draws an act and writes it, with at most room blocks and parentheses inside each
// other.
func (p *pen) act(room int) api.Act {
	kind := 1 + p.draws.Intn(len(words))
	if room == 0 && (kind == api.AIf || kind == api.AEach) {
		kind = api.ADestroy
	}
	act := api.Act{Kind: kind}
	act.Line, act.Col = p.put(words[kind-1])
	switch kind {
	case api.APower, api.ASet, api.AAura:
		act.Sel = p.sel()
		act.Num = p.expr(room)
	case api.ADestroy, api.AReturn, api.AShield:
		act.Sel = p.sel()
	case api.AMove:
		act.Sel = p.sel()
		act.To = p.to()
	case api.ASpawn:
		act.Name = p.name()
		act.Side = p.one(sides)
		act.To = p.to()
		act.Num = p.expr(room)
	case api.ADraw, api.AEnergy:
		act.Side = p.one(sides)
		act.Num = p.expr(room)
	case api.ADiscard:
		act.Side = p.one(sides)
		act.How = p.one(hows)
	case api.ADouble, api.ABar:
		act.Side = p.one(sides)
		act.To = p.to()
	case api.AIf:
		act.Cond.L = p.expr(room)
		act.Cond.Op = p.one(ops)
		act.Cond.R = p.expr(room)
		act.Then = p.block(room)
		if p.draws.Intn(2) == 0 {
			p.put("else")
			act.Else = p.block(room)
		}
		return act
	case api.AEach:
		act.Sel = p.sel()
		act.Then = p.block(room)
		return act
	}
	p.put(";")
	return act
}

func (p *pen) block(room int) []api.Act {
	p.put("{")
	acts := p.acts(room - 1)
	p.put("}")
	return acts
}

// rules draws rules and writes them.
func (p *pen) rules() []api.Rule {
	var list []api.Rule
	p.put("{")
	for p.draws.Intn(3) > 0 {
		rule := api.Rule{When: 1 + p.draws.Intn(6)}
		rule.Line, rule.Col = p.put([]string{"reveal", "death", "moved", "end", "always", "enter"}[rule.When-1])
		if rule.When == api.WAlways {
			rule.Stratum = p.number()
		}
		p.put("{")
		rule.Acts = p.acts(deepest)
		p.put("}")
		list = append(list, rule)
	}
	p.put("}")
	return list
}

// file draws cards and locations and writes them.
func (p *pen) file() api.File {
	var file api.File
	for range p.draws.Intn(6) {
		if p.draws.Intn(2) == 0 {
			var card api.Card
			card.Line, card.Col = p.put("card")
			card.Name = p.name()
			p.put("cost")
			card.Cost = p.number()
			p.put("power")
			card.Power = p.signed()
			card.Rules = p.rules()
			file.Cards = append(file.Cards, card)
			continue
		}
		var place api.Place
		place.Line, place.Col = p.put("place")
		place.Name = p.name()
		place.Rules = p.rules()
		file.Places = append(file.Places, place)
	}
	return file
}

// P11.1: drawn trees.

func TestDrawnExprs(t *testing.T) {
	draws := rand.New(rand.NewSource(114))
	for n := range 4000 {
		p := newPen(draws, 0)
		want := p.expr(n % (deepest + 1))
		p.gap(' ')
		checkTree(t, "a drawn expr", p.text.String(), Expr, want)
	}
}

func TestDrawnActs(t *testing.T) {
	draws := rand.New(rand.NewSource(115))
	for n := range 1000 {
		p := newPen(draws, n%50)
		want := p.acts(deepest)
		p.gap(' ')
		checkTree(t, "drawn acts", p.text.String(), Acts, want)
	}
}

func TestDrawnFiles(t *testing.T) {
	draws := rand.New(rand.NewSource(116))
	for n := range 1000 {
		p := newPen(draws, n%100)
		want := p.file()
		p.gap(' ')
		checkTree(t, "a drawn file", p.text.String(), Parse, want)
	}
}
