package prog

import (
	"fmt"
	"math/rand"
	"slices"
	"strconv"
	"strings"
	"testing"

	"trident/api"
	"trident/code"
	"trident/internal/listing"
	"trident/internal/rules"
	"trident/lint"
	"trident/syntax"
	"trident/unparse"
)

// checkModel checks all that is answered of a program against what it should be, and
// returns what Check returned.
func checkModel(t *testing.T, p api.Program) api.Errno {
	t.Helper()
	e, at := faultOf(p)
	if gotE, gotAt := Check(p); gotE != e || gotAt != at {
		t.Errorf("Check of %+v is %d at %d, want %d at %d", p, gotE, gotAt, e, at)
		return e
	}
	deep, text := 0, ""
	if e == api.OK {
		deep = deepOf(p)
	}
	for _, at := range fewIndices(p) {
		want := ""
		if e == api.OK && at >= 0 && at < len(p.Code) {
			want = lineOf(p, at)
		}
		if got := Line(p, at); got != want {
			t.Errorf("line %d of %+v is %q, want %q", at, p, got, want)
		}
	}
	if e == api.OK {
		for at := range p.Code {
			text += lineOf(p, at) + "\n"
		}
	}
	if got := Deep(p); got != deep {
		t.Errorf("Deep of %+v is %d, want %d", p, got, deep)
	}
	if got := Text(p); got != text {
		t.Errorf("the text of %+v is %q, want %q", p, got, text)
	}
	return e
}

// P15.1 and P15.2: all short programs of a few instructions.
func TestShortPrograms(t *testing.T) {
	for _, c := range []struct {
		listing string
		longest int
	}{
		{"push 1; add; power 0; test 1 2; test 1 3; jump 2; each 0 2; each 0 3; next 1; next 2; return 1; spawn 0 1 8", 4},
		{"push 1; mul; aura 0; test 3 4; shield 0", 6},
		{"each 0 1; each 0 2; each 0 3; each 0 4; next 1; next 2; next 3; return 0; jump 3", 5},
		{"round; draw 1; sub; test 4 5; jump 5; each 0 5; next 2; next 3", 5},
	} {
		few := program(t, c.listing)
		found := map[api.Errno]int{}
		var extend func(list []api.Ins)
		extend = func(list []api.Ins) {
			found[checkModel(t, api.Program{Code: list, Sels: []api.Sel{{Kind: api.SelMe}}, Names: []string{"A"}})]++
			if len(list) == c.longest || t.Failed() {
				return
			}
			for _, ins := range few.Code {
				extend(append(slices.Clip(list), ins))
			}
		}
		extend(nil)
		if found[api.OK] < 15 || found[api.ErrState] < 100 {
			t.Errorf("of %s there are %v", c.listing, found)
		}
	}
}

// read returns the program that has only the instruction of a line, or false. The words of
// it are read by syntax, as the chapter says.
func read(at int, line string) (api.Program, bool) {
	rest, ok := strings.CutPrefix(line, fmt.Sprint(at, " "))
	if !ok {
		return api.Program{}, false
	}
	word, operands, _ := strings.Cut(rest, " ")
	last := ""
	if isOne(api.Ins{Op: opOf(word)}, "test each") {
		space := strings.LastIndex(operands, " ")
		operands, last = operands[:space], operands[space+1:]
	}
	var p api.Program
	switch word {
	case "push", "jump", "next":
		last, operands = operands, ""
		p.Code = []api.Ins{{Op: opOf(word)}}
	case "add", "sub", "mul":
		p.Code = []api.Ins{{Op: opOf(word)}}
	case "count", "sum", "round", "hand", "free":
		tree, fault := syntax.Expr(rest)
		if fault.E != api.OK {
			return p, false
		}
		p = code.Expr(tree)
	default:
		before, behind := word+" ", ";"
		switch word {
		case "power", "set", "spawn", "draw", "energy", "aura":
			behind = " 1;"
		case "each":
			behind = " { }"
		case "test":
			before, behind = "if 1 ", " 1 { }"
		}
		acts, fault := syntax.Acts(before + operands + behind)
		if fault.E != api.OK {
			return p, false
		}
		p = code.Acts(acts)
		p.Code = slices.DeleteFunc(p.Code, func(ins api.Ins) bool { return ins.Op != opOf(word) })
	}
	return withLast(p, word, last)
}

// opOf returns the instruction with that word.
func opOf(word string) int {
	for op := api.IPush; op <= api.IBar; op++ {
		if listing.Mnemonic(op) == word {
			return op
		}
	}
	return 0
}

// withLast returns the program with a number, if there is one, as the last operand of its
// only instruction.
func withLast(p api.Program, word, last string) (api.Program, bool) {
	if len(p.Code) != 1 {
		return p, false
	}
	if last == "" {
		return p, true
	}
	n, err := strconv.Atoi(last)
	if word == "test" || word == "each" {
		p.Code[0].B = n
	} else {
		p.Code[0].A = n
	}
	return p, err == nil && strconv.Itoa(n) == last
}

// checkReadBack checks that the lines of a valid program are all different things than they
// could be: a program is read from them.
func checkReadBack(t *testing.T, p api.Program) {
	t.Helper()
	var all api.Program
	for at := range p.Code {
		line := Line(p, at)
		one, ok := read(at, line)
		if !ok {
			t.Fatalf("the line %q of %+v cannot be read", line, p)
		}
		ins := one.Code[0]
		switch {
		case len(one.Sels) > 0:
			ins.A = len(all.Sels)
		case len(one.Names) > 0:
			ins.A = len(all.Names)
		}
		all.Code = append(all.Code, ins)
		all.Sels = append(all.Sels, one.Sels...)
		all.Names = append(all.Names, one.Names...)
	}
	if shown(all) != shown(p) {
		t.Errorf("from the text of\n%+v\nthere is read\n%+v", p, all)
	}
}

// heightOfExpr returns how many numbers are on the stack at most where an expr is evaluated.
func heightOfExpr(e api.Expr) int {
	if e.Kind != api.EBin {
		return 1
	}
	return max(heightOfExpr(e.Kids[0]), 1+heightOfExpr(e.Kids[1]))
}

// heightOfActs returns the same for acts.
func heightOfActs(acts []api.Act) int {
	height := 0
	for _, a := range acts {
		if a.Num.Kind != 0 {
			height = max(height, heightOfExpr(a.Num))
		}
		if a.Kind == api.AIf {
			height = max(height, heightOfExpr(a.Cond.L), 1+heightOfExpr(a.Cond.R))
		}
		height = max(height, heightOfActs(a.Then), heightOfActs(a.Else))
	}
	return height
}

// checkRule checks what is answered of the program of a rule.
func checkRule(t *testing.T, r api.Rule) {
	t.Helper()
	p := code.Rule(r)
	if e, at := Check(p); e != api.OK || at != 0 {
		t.Fatalf("Check of the program of\n%s\nis %d at %d", unparse.Acts(r.Acts), e, at)
	}
	text := Text(p)
	if lines := strings.Count(text, "\n"); lines != lint.Size(r) {
		t.Errorf("the text of the program of\n%s\nhas %d lines, and the rule is of size %d", unparse.Acts(r.Acts), lines, lint.Size(r))
	}
	if strings.HasPrefix(text, "\n") || strings.Contains(text, "\n\n") {
		t.Errorf("the text of the program of\n%s\nhas an empty line:\n%s", unparse.Acts(r.Acts), text)
	}
	if got, want := Deep(p), heightOfActs(r.Acts); got != want {
		t.Errorf("Deep of the program of\n%s\nis %d, want %d", unparse.Acts(r.Acts), got, want)
	}
	checkReadBack(t, p)
	checkModel(t, p)
}

// P15.3: the programs of drawn rules that lint accepts.
func TestDrawnRules(t *testing.T) {
	all := rules.Draw(rand.New(rand.NewSource(151)).Intn, 8000, 150)
	used := map[int]int{}
	for _, r := range all {
		checkRule(t, r)
		if t.Failed() {
			return
		}
		for _, ins := range code.Rule(r).Code {
			used[ins.Op]++
		}
	}
	for op := api.IPush; op <= api.IBar; op++ {
		if used[op] < 100 {
			t.Errorf("the instruction %s comes only %d times", listing.Mnemonic(op), used[op])
		}
	}
	if len(all) < 3000 {
		t.Errorf("there are only %d rules", len(all))
	}
}

// P15.3: rules of the greatest size that lint accepts, and of one more.
func TestLongestRules(t *testing.T) {
	for _, s := range []string{
		"destroy me; power me count me" + strings.Repeat(" * sum me", 46) + "; return me;",
		"draw mine 1" + strings.Repeat(" + 1", 46) + "; destroy it; return me;",
		"each me { if 1 < 2 { draw mine 1" + strings.Repeat(" + 1", 43) + "; } else { return it; } } return me;",
		strings.Repeat("each (both here all) { spawn \"B\" both here count it; if round < 2 { } } ", 12) + "",
	} {
		for _, more := range []string{"", "return me;", "return me; return me;", "draw mine 1;"} {
			acts, fault := syntax.Acts(s + more)
			if fault.E != api.OK {
				t.Fatalf("%s has the fault %v", s, fault)
			}
			r := api.Rule{When: api.WReveal, Acts: acts}
			e := lint.Card(api.Card{Name: "A", Rules: []api.Rule{r}}).E
			switch size := lint.Size(r); {
			case size > 96:
				checkWrong(t, s+more, code.Rule(r), api.ErrLong, 96)
			case e == api.OK:
				checkRule(t, r)
			}
		}
	}
}

// spoil changes something of a program.
func spoil(p *api.Program, draws *rand.Rand) {
	number := func() int {
		if draws.Intn(8) > 0 {
			return draws.Intn(len(p.Code)+4) - 2
		}
		list := extremes()
		return list[draws.Intn(len(list))]
	}
	at := draws.Intn(len(p.Code) + 1)
	switch draws.Intn(8) {
	case 0:
		ins := api.Ins{Op: draws.Intn(29) - 1, A: number(), B: number(), C: number()}
		p.Code = slices.Insert(p.Code, at, ins)
		return
	case 1:
		if len(p.Sels) > 0 {
			p.Sels = p.Sels[:len(p.Sels)-1]
		}
		return
	case 2:
		if len(p.Names) > 0 {
			p.Names = p.Names[:len(p.Names)-1]
		}
		return
	}
	if at == len(p.Code) {
		return
	}
	ins := &p.Code[at]
	switch draws.Intn(7) {
	case 0:
		p.Code = slices.Delete(p.Code, at, at+1)
	case 1:
		p.Code = append(p.Code, p.Code[at])
	case 2:
		ins.Op = draws.Intn(29) - 1
	case 3:
		ins.A = number()
	case 4:
		ins.B = number()
	case 5:
		ins.C = number()
	case 6:
		other := draws.Intn(len(p.Code))
		p.Code[at], p.Code[other] = p.Code[other], p.Code[at]
	}
}

// P15.1 and P15.2: programs of drawn rules with a few changes.
func TestSpoiledPrograms(t *testing.T) {
	draws := rand.New(rand.NewSource(152))
	all := rules.Draw(draws.Intn, 3000, 150)
	found := map[api.Errno]int{}
	for range 20000 {
		r := all[draws.Intn(len(all))]
		p := code.Rule(r)
		for range 1 + draws.Intn(3) {
			spoil(&p, draws)
		}
		found[checkModel(t, p)]++
		if t.Failed() {
			return
		}
	}
	for _, e := range []api.Errno{api.OK, api.ErrKind, api.ErrRange, api.ErrState} {
		if found[e] < 500 {
			t.Errorf("there are only %v", found)
		}
	}
}
