package syntax

import (
	"math/rand"
	"slices"
	"strings"
	"testing"

	"trident/api"
	"trident/internal/grammar"
	"trident/tokens"
)

// judge finds out where tokens leave the grammar, by trying all that it offers.
type judge struct {
	symbols grammar.Grammar
	list    []api.Tok
	// far is the last token at which all that was tried ended, deep the last one that
	// was too deep.
	far, deep int
}

// fits reports whether the token is the one that the grammar writes so.
func fits(tok api.Tok, text string) bool {
	switch tok.Kind {
	case api.TInt:
		return text == "INT"
	case api.TName:
		return text == "NAME"
	default:
		return text == "\""+tok.Text+"\""
	}
}

// ends returns where the part may end that begins at one of those tokens.
func (j *judge) ends(p grammar.Part, begins []int, depth int) []int {
	var all []int
	if len(begins) == 0 {
		return all
	}
	switch p.Kind {
	case grammar.Token:
		for _, i := range begins {
			if fits(j.list[i], p.Text) {
				all = append(all, i+1)
			} else {
				j.far = max(j.far, i)
			}
		}
	case grammar.Symbol:
		return j.ends(j.symbols[p.Text], begins, depth)
	case grammar.Sequence:
		for _, q := range p.Parts {
			begins = j.ends(q, begins, depth)
		}
		return begins
	case grammar.Choice:
		for _, q := range p.Parts {
			all = append(all, j.ends(q, begins, depth)...)
		}
	case grammar.Repeated:
		for len(begins) > 0 {
			all = append(all, begins...)
			begins = j.ends(p.Parts[0], begins, depth)
		}
	case grammar.Optional:
		all = append(slices.Clone(begins), j.ends(p.Parts[0], begins, depth)...)
	case grammar.Deeper:
		return j.ends(p.Parts[0], j.allowed(p, begins, depth), depth+1)
	}
	slices.Sort(all)
	return slices.Compact(all)
}

// allowed returns those tokens at which the part, which is one level deeper, may begin:
// none of them if it is too deep.
func (j *judge) allowed(p grammar.Part, begins []int, depth int) []int {
	if depth < deepest {
		return begins
	}
	first := p.Parts[0].Parts[0].Parts[0]
	for _, i := range begins {
		if fits(j.list[i], first.Text) {
			j.deep = max(j.deep, i)
		}
		j.far = max(j.far, i)
	}
	return nil
}

// judged returns the fault that the text has as a symbol of the grammar.
func judged(symbols grammar.Grammar, name, s string) api.Fault {
	list, fault := tokens.Scan(s)
	if fault.E != api.OK {
		return fault
	}
	j := &judge{symbols: symbols, list: list, far: -1, deep: -1}
	for _, i := range j.ends(symbols[name], []int{0}, 0) {
		if list[i].Kind == api.TEnd {
			return api.Fault{}
		}
		j.far = max(j.far, i)
	}
	tok := list[j.far]
	switch {
	case j.deep == j.far:
		return at(api.ErrDepth, tok.Line, tok.Col)
	case tok.Kind == api.TEnd:
		return at(api.ErrEnd, tok.Line, tok.Col)
	default:
		return at(api.ErrToken, tok.Line, tok.Col)
	}
}

// checkJudged checks the faults of a text as an expr, as acts and as a file.
func checkJudged(t *testing.T, symbols grammar.Grammar, s string) {
	t.Helper()
	checkFault(t, "as an expr", s, Expr, judged(symbols, "expr", s))
	checkFault(t, "as acts", s, Acts, judged(symbols, "acts", s))
	checkFault(t, "as a file", s, Parse, judged(symbols, "file", s))
	if t.Failed() {
		t.FailNow()
	}
}

// P11.1 and P11.2: the grammar of the chapter.

func TestGrammarOfTheTexts(t *testing.T) {
	symbols := grammar.Read(grammar.Cards)
	for _, c := range exprs {
		checkJudged(t, symbols, c.s)
	}
	for _, c := range blocks {
		checkJudged(t, symbols, c.s)
	}
	for _, c := range files {
		checkJudged(t, symbols, c.s)
	}
	for _, list := range [][]wrong{wrongExprs, wrongActs, wrongFiles, spoils} {
		for _, w := range list {
			checkJudged(t, symbols, w.s)
		}
	}
}

func TestDrawnTextsOfTheGrammar(t *testing.T) {
	symbols := grammar.Read(grammar.Cards)
	draws := rand.New(rand.NewSource(11))
	for n := range 2000 {
		for _, name := range []string{"expr", "acts", "file"} {
			list := symbols.Draw(name, draws.Intn, n%60, 0)
			checkJudged(t, symbols, strings.Join(list, " "))
		}
	}
}

func TestDrawnDeepTextsOfTheGrammar(t *testing.T) {
	symbols := grammar.Read(grammar.Cards)
	draws := rand.New(rand.NewSource(112))
	faults := map[api.Errno]int{}
	for n := range 2000 {
		for _, name := range []string{"expr", "acts", "file"} {
			s := strings.Join(symbols.Draw(name, draws.Intn, n%100, 4+n%6), " ")
			checkJudged(t, symbols, s)
			faults[judged(symbols, name, s).E]++
		}
	}
	if faults[api.OK] < 100 || faults[api.ErrDepth] < 100 || len(faults) > 2 {
		t.Errorf("the faults of the deep texts are %v", faults)
	}
}

// telling are tokens of all kinds: all words and marks of the grammar, others, and
// names and numbers.
func telling() []string {
	list := []string{"x", "lanes", "A", "0", "7", "\"me\"", "\"A\"", "\"-\""}
	for _, field := range strings.Fields(grammar.Cards) {
		if text := strings.Trim(field, "\""); text != field && !slices.Contains(list, text) {
			list = append(list, text)
		}
	}
	return list
}

// Texts of the grammar with one token changed, left out or added, and cut off.
func TestSpoiledTextsOfTheGrammar(t *testing.T) {
	symbols := grammar.Read(grammar.Cards)
	draws := rand.New(rand.NewSource(113))
	others := telling()
	for n := range 500 {
		name := []string{"expr", "acts", "file"}[n%3]
		list := symbols.Draw(name, draws.Intn, n%40, n%8)
		for i := range list {
			other := others[draws.Intn(len(others))]
			changed := slices.Clone(list)
			changed[i] = other
			checkJudged(t, symbols, strings.Join(changed, " "))
			checkJudged(t, symbols, strings.Join(slices.Delete(slices.Clone(list), i, i+1), " "))
			checkJudged(t, symbols, strings.Join(slices.Insert(slices.Clone(list), i, other), " "))
			checkJudged(t, symbols, strings.Join(list[:i], " "))
		}
	}
}

// Every token behind every beginning of a text that has everything in it.
func TestEveryTokenBehindEveryBeginning(t *testing.T) {
	symbols := grammar.Read(grammar.Cards)
	others := telling()
	for _, s := range []string{
		"count me - - 3 * ( sum ( mine here cost < - 1 power != 2 named \"A\" not me not it all ) + hand mine ) - free both lane 2 * free theirs left + round",
		"power me 1 ; set it - 2 ; destroy me ; move it left ; return ( theirs lane 1 first ) ; spawn \"A\" mine lane 2 3 ; draw both 1 ; discard mine cheapest ; energy theirs 2 ;",
		"if 1 < ( 2 ) { aura me 1 ; } else { if 1 = 2 { } } each it { shield me ; } double mine right ; bar both here ;",
		"card \"A\" cost 1 power - 2 { reveal { } always 1 { destroy me ; } } place \"B\" { enter { } end { } } card \"C\" cost 1 power 2 { }",
	} {
		list := strings.Fields(s)
		for i := range len(list) + 1 {
			for _, other := range others {
				checkJudged(t, symbols, strings.Join(list[:i], " ")+" "+other)
			}
		}
	}
}

// Short texts of telling tokens, all of them.
func TestShortTexts(t *testing.T) {
	symbols := grammar.Read(grammar.Cards)
	for _, c := range []struct {
		most int
		list []string
	}{
		{6, []string{"1", "-", "*", "(", ")"}},
		{4, []string{"count", "me", "(", "mine", "here", "all", ")", "-"}},
		{5, []string{"if", "1", "<", "{", "}", "else"}},
		{5, []string{"each", "it", "{", "}", "destroy", ";"}},
		{5, []string{"place", "\"A\"", "{", "}", "end", "card"}},
	} {
		eachText(c.list, c.most, "", func(s string) {
			checkJudged(t, symbols, s)
		})
	}
}

// eachText calls f with every text of at most that many of these tokens behind others.
func eachText(list []string, most int, before string, f func(string)) {
	f(before)
	if most > 0 {
		for _, text := range list {
			eachText(list, most-1, before+text+" ", f)
		}
	}
}
