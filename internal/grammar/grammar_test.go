package grammar

import (
	"fmt"
	"math/rand"
	"regexp"
	"strings"
	"testing"
)

const example = `
list = "(" [ item ] { "," item } ")" ;
item = INT | name | < "[" list "]" > ;
name = NAME | "me" NEGATIVE ;
`

// token returns the part that is a token.
func token(text string) Part {
	return Part{Kind: Token, Text: text}
}

// symbol returns the part that is a symbol.
func symbol(text string) Part {
	return Part{Kind: Symbol, Text: text}
}

// one returns a choice of one sequence.
func one(parts ...Part) Part {
	return Part{Kind: Choice, Parts: []Part{{Kind: Sequence, Parts: parts}}}
}

// around returns a part of that kind around a choice of one sequence.
func around(kind int, parts ...Part) Part {
	return Part{Kind: kind, Parts: []Part{one(parts...)}}
}

// either returns a choice of sequences.
func either(choices ...Part) Part {
	all := Part{Kind: Choice}
	for _, c := range choices {
		all.Parts = append(all.Parts, c.Parts...)
	}
	return all
}

func TestRead(t *testing.T) {
	want := Grammar{
		"list": one(token("\"(\""), around(Optional, symbol("item")), around(Repeated, token("\",\""), symbol("item")), token("\")\"")),
		"item": either(one(token("INT")), one(symbol("name")), one(around(Deeper, token("\"[\""), symbol("list"), token("\"]\"")))),
		"name": either(one(token("NAME")), one(token("\"me\""), token("NEGATIVE"))),
	}
	if got := Read(example); fmt.Sprint(got) != fmt.Sprint(want) {
		t.Errorf("the grammar is\n%v, want\n%v", got, want)
	}
	if got := Read(" \n"); len(got) != 0 {
		t.Errorf("the grammar of no text is %v", got)
	}
}

func TestEverySymbolIsDefined(t *testing.T) {
	for _, g := range []Grammar{Read(Cards), Valid()} {
		var check func(p Part)
		check = func(p Part) {
			if _, ok := g[p.Text]; p.Kind == Symbol && !ok {
				t.Errorf("%s is not defined", p.Text)
			}
			for _, q := range p.Parts {
				check(q)
			}
		}
		for _, p := range g {
			check(p)
		}
	}
}

// Drawn texts without faults have all the tokens that texts of cards and locations have.
func TestDrawnTextsOfValid(t *testing.T) {
	g := Valid()
	seen := map[string]int{}
	draws := rand.New(rand.NewSource(4))
	for n := range 2000 {
		for _, text := range g.Draw("file", draws.Intn, n%100, n%8) {
			seen[text]++
		}
	}
	var check func(p Part)
	check = func(p Part) {
		if text := strings.Trim(p.Text, "\""); p.Kind == Token && text != p.Text && seen[text] == 0 {
			t.Errorf("%s is never drawn", text)
		}
		for _, q := range p.Parts {
			check(q)
		}
	}
	for _, p := range Read(Cards) {
		check(p)
	}
}

func TestDrawnTextsAreOfTheGrammar(t *testing.T) {
	g := Read(example)
	name := `("[^"]+" |me -\d+ )`
	flat := regexp.MustCompile(`^\( (\d+ |` + name + `)?(, (\d+ |` + name + `))*\) $`)
	inner := regexp.MustCompile(`\[ \( [^\[\]]*\) \] `)
	seen := map[string]int{}
	draws := rand.New(rand.NewSource(1))
	for n := range 2000 {
		s := strings.Join(g.Draw("list", draws.Intn, n%20, n%8), " ") + " "
		for _, text := range strings.Fields(s) {
			seen[text]++
		}
		for inner.MatchString(s) {
			s = inner.ReplaceAllString(s, "1 ")
		}
		if !flat.MatchString(s) {
			t.Fatalf("%s is not of the grammar", s)
		}
	}
	for _, text := range []string{"(", ")", ",", "me", "[", "]", "0", "99", "-1", "-99", "\"A\"", "\"Éé\""} {
		if seen[text] == 0 {
			t.Errorf("%s is never drawn", text)
		}
	}
}

func TestDrawnTextsEnd(t *testing.T) {
	g := Read(Cards)
	draws := rand.New(rand.NewSource(2))
	for n := range 1000 {
		for symbol := range g {
			g.Draw(symbol, draws.Intn, n%5, 10)
		}
	}
	if list := g.Draw("expr", draws.Intn, -1, 10); len(list) > 2 {
		t.Errorf("without room an expr is %q", list)
	}
}

// Of 10 choices of 10 all that can be are of what is deeper, of 0 few.
func TestDeep(t *testing.T) {
	g := Read(Cards)
	draws := rand.New(rand.NewSource(3))
	deep := map[int]int{}
	for range 300 {
		for _, d := range []int{0, 10} {
			for _, text := range g.Draw("acts", draws.Intn, 30, d) {
				if text == "if" || text == "each" {
					deep[d]++
				}
			}
		}
	}
	if deep[0] == 0 || deep[10] < 3*deep[0] {
		t.Errorf("the numbers of acts with blocks are %v", deep)
	}
}
