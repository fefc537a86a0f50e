package code

import (
	"fmt"
	"math/rand"
	"slices"
	"strings"
	"testing"

	"trident/api"
	"trident/internal/listing"
	"trident/internal/rules"
	"trident/lint"
	"trident/syntax"
	"trident/unparse"
)

// reader reads the acts back of which a program is.
type reader struct {
	t *testing.T
	p api.Program
	// sels and names are how many of these were referred to so far.
	sels, names int
	stack       []api.Expr
}

// operands are how many of A, B and C an instruction has.
var operands = []int{
	api.IPush: 1, api.ICount: 1, api.ISum: 1, api.IHand: 1, api.IFree: 3, api.IPower: 1, api.ISet: 1, api.IDestroy: 1, api.IMove: 3,
	api.IReturn: 1, api.ISpawn: 3, api.IDraw: 1, api.IDiscard: 2, api.IEnergy: 1, api.ITest: 2, api.IJump: 1, api.IEach: 2, api.INext: 1,
	api.IAura: 1, api.IDouble: 3, api.IShield: 1, api.IBar: 3,
}

// at returns the instruction at an index. It has no operands but its own.
func (r *reader) at(i int) api.Ins {
	r.t.Helper()
	if i < 0 || i >= len(r.p.Code) {
		r.t.Fatalf("%+v has no instruction %d", r.p, i)
	}
	ins := r.p.Code[i]
	for n, field := range []int{ins.A, ins.B, ins.C} {
		if n >= operands[ins.Op] && field != 0 {
			r.t.Fatalf("instruction %d of %+v has operands that are not its own", i, r.p)
		}
	}
	return ins
}

// sel returns the sel to which the next instruction that refers to one refers by n.
func (r *reader) sel(n int) api.Sel {
	r.t.Helper()
	if n != r.sels || n >= len(r.p.Sels) {
		r.t.Fatalf("%+v refers to the sel %d, not %d", r.p, n, r.sels)
	}
	r.sels++
	return r.p.Sels[n]
}

// name returns the name to which the next instruction that refers to one refers by n.
func (r *reader) name(n int) string {
	r.t.Helper()
	if n != r.names || n >= len(r.p.Names) {
		r.t.Fatalf("%+v refers to the name %d, not %d", r.p, n, r.names)
	}
	r.names++
	return r.p.Names[n]
}

// pop takes the last expr.
func (r *reader) pop() api.Expr {
	r.t.Helper()
	if len(r.stack) == 0 {
		r.t.Fatalf("in %+v a number is missing", r.p)
	}
	last := r.stack[len(r.stack)-1]
	r.stack = r.stack[:len(r.stack)-1]
	return last
}

// expr reads the last instruction of an expr.
func (r *reader) expr(ins api.Ins) api.Expr {
	r.t.Helper()
	switch ins.Op {
	case api.IPush:
		return api.Expr{Kind: api.ENum, N: ins.A}
	case api.ICount:
		return api.Expr{Kind: api.ECount, Sel: r.sel(ins.A)}
	case api.ISum:
		return api.Expr{Kind: api.ESum, Sel: r.sel(ins.A)}
	case api.IRound:
		return api.Expr{Kind: api.ERound}
	case api.IHand:
		return api.Expr{Kind: api.EHand, Side: ins.A}
	case api.IFree:
		return api.Expr{Kind: api.EFree, Side: ins.A, To: api.To{Kind: ins.B, Lane: ins.C}}
	default:
		right := r.pop()
		left := r.pop()
		sign := map[int]int{api.IAdd: api.Plus, api.ISub: api.Minus, api.IMul: api.Times}[ins.Op]
		return api.Expr{Kind: api.EBin, N: sign, Kids: []api.Expr{left, right}}
	}
}

// plain reads the instruction of an act without blocks.
func (r *reader) plain(ins api.Ins) api.Act {
	r.t.Helper()
	to := api.To{Kind: ins.B, Lane: ins.C}
	switch ins.Op {
	case api.IPower:
		return api.Act{Kind: api.APower, Num: r.pop(), Sel: r.sel(ins.A)}
	case api.ISet:
		return api.Act{Kind: api.ASet, Num: r.pop(), Sel: r.sel(ins.A)}
	case api.IAura:
		return api.Act{Kind: api.AAura, Num: r.pop(), Sel: r.sel(ins.A)}
	case api.IDestroy:
		return api.Act{Kind: api.ADestroy, Sel: r.sel(ins.A)}
	case api.IReturn:
		return api.Act{Kind: api.AReturn, Sel: r.sel(ins.A)}
	case api.IShield:
		return api.Act{Kind: api.AShield, Sel: r.sel(ins.A)}
	case api.IMove:
		return api.Act{Kind: api.AMove, Sel: r.sel(ins.A), To: to}
	case api.ISpawn:
		return api.Act{Kind: api.ASpawn, Num: r.pop(), Name: r.name(ins.A), Side: ins.B, To: api.To{Kind: ins.C / 8, Lane: ins.C % 8}}
	case api.IDraw:
		return api.Act{Kind: api.ADraw, Num: r.pop(), Side: ins.A}
	case api.IEnergy:
		return api.Act{Kind: api.AEnergy, Num: r.pop(), Side: ins.A}
	case api.IDiscard:
		return api.Act{Kind: api.ADiscard, Side: ins.A, How: ins.B}
	case api.IDouble:
		return api.Act{Kind: api.ADouble, Side: ins.A, To: to}
	case api.IBar:
		return api.Act{Kind: api.ABar, Side: ins.A, To: to}
	default:
		r.t.Fatalf("%+v has the instruction %v in a wrong place", r.p, ins)
		return api.Act{}
	}
}

// branch reads an AIf from its ITest on, and returns the index behind it.
func (r *reader) branch(i int) (api.Act, int) {
	r.t.Helper()
	ins := r.at(i)
	a := api.Act{Kind: api.AIf}
	a.Cond = api.Cond{Op: ins.A, R: r.pop(), L: r.pop()}
	if ins.B <= i || ins.B > len(r.p.Code) {
		r.t.Fatalf("a test in %+v leads to %d", r.p, ins.B)
	}
	// The IJump of an AIf inside Then has acts behind it, so this one is its own.
	last := r.at(ins.B - 1)
	if last.Op != api.IJump {
		a.Then = r.acts(i+1, ins.B)
		return a, ins.B
	}
	a.Then = r.acts(i+1, ins.B-1)
	a.Else = r.acts(ins.B, last.A)
	if len(a.Else) == 0 {
		r.t.Fatalf("a jump in %+v leads to %d", r.p, last.A)
	}
	return a, last.A
}

// loop reads an AEach from its IEach on, and returns the index behind it.
func (r *reader) loop(i int) (api.Act, int) {
	r.t.Helper()
	ins := r.at(i)
	a := api.Act{Kind: api.AEach, Sel: r.sel(ins.A)}
	a.Then = r.acts(i+1, ins.B-1)
	if last := r.at(ins.B - 1); last != (api.Ins{Op: api.INext, A: i + 1}) {
		r.t.Fatalf("an each in %+v ends with %v", r.p, last)
	}
	return a, ins.B
}

// acts reads the acts from an index to another one.
func (r *reader) acts(i, end int) []api.Act {
	r.t.Helper()
	var list []api.Act
	for i < end {
		var a api.Act
		next := i + 1
		switch ins := r.at(i); {
		case ins.Op <= api.IMul:
			r.stack = append(r.stack, r.expr(ins))
			i = next
			continue
		case ins.Op == api.ITest:
			a, next = r.branch(i)
		case ins.Op == api.IEach:
			a, next = r.loop(i)
		default:
			a = r.plain(ins)
		}
		if len(r.stack) > 0 {
			r.t.Fatalf("in %+v numbers remain before %d", r.p, next)
		}
		list = append(list, a)
		i = next
	}
	return list
}

// readBack returns the acts of which a program is, and the exprs that remain behind them.
func readBack(t *testing.T, p api.Program) ([]api.Act, []api.Expr) {
	t.Helper()
	r := reader{t: t, p: p}
	acts := r.acts(0, len(p.Code))
	if r.sels != len(p.Sels) || r.names != len(p.Names) {
		t.Fatalf("to some sels or names of %+v no instruction refers", p)
	}
	return acts, r.stack
}

// exprs calls f with all exprs that are in acts, operands too.
func exprs(acts []api.Act, f func(api.Expr)) {
	var visit func(e api.Expr)
	visit = func(e api.Expr) {
		if e.Kind != 0 {
			f(e)
		}
		for _, kid := range e.Kids {
			visit(kid)
		}
	}
	for _, a := range acts {
		visit(a.Num)
		visit(a.Cond.L)
		visit(a.Cond.R)
		exprs(a.Then, f)
		exprs(a.Else, f)
	}
}

// drawRules returns rules that lint accepts, of so many texts of up to about room tokens.
func drawRules(seed int64, texts, room int) []api.Rule {
	return rules.Draw(rand.New(rand.NewSource(seed)).Intn, texts, room)
}

// P14.1 and P14.2: the acts and the exprs of drawn rules are read back from their programs,
// which are of their sizes.
func TestDrawnRules(t *testing.T) {
	all := drawRules(141, 12000, 150)
	used := map[int]int{}
	for _, r := range all {
		p := Rule(r)
		for _, ins := range p.Code {
			used[ins.Op]++
		}
		acts, rest := readBack(t, p)
		if shown(acts) != shown(r.Acts) || len(rest) > 0 {
			t.Fatalf("from the program of\n%s\nthese acts are read:\n%s", unparse.Acts(r.Acts), unparse.Acts(acts))
		}
		checkProgram(t, unparse.Acts(r.Acts), Acts(r.Acts), p)
		if size := lint.Size(r); len(p.Code) != size {
			t.Fatalf("%s\nhas %d instructions and is of size %d", unparse.Acts(r.Acts), len(p.Code), size)
		}
		exprs(r.Acts, func(e api.Expr) {
			acts, rest := readBack(t, Expr(e))
			if len(acts) > 0 || len(rest) != 1 || shown(rest[0]) != shown(e) {
				t.Fatalf("from the program of %s there are read %s and %+v", unparse.Expr(e), unparse.Acts(acts), rest)
			}
		})
		if t.Failed() {
			return
		}
	}
	for op := api.IPush; op <= api.IBar; op++ {
		if used[op] < 100 {
			t.Errorf("the instruction %s comes only %d times", listing.Mnemonic(op), used[op])
		}
	}
	if len(all) < 4000 {
		t.Errorf("there are only %d rules", len(all))
	}
}

// P14.2: the programs of drawn lists of acts that are concatenated.
func TestDrawnConcatenations(t *testing.T) {
	all := drawRules(142, 4000, 400)
	draws := rand.New(rand.NewSource(143))
	many, long := 0, 0
	for range 20000 {
		first, last := all[draws.Intn(len(all))].Acts, all[draws.Intn(len(all))].Acts
		both := slices.Concat(first, last)
		want := listing.Join(Acts(first), Acts(last))
		if len(both) > api.MaxActs {
			many++
		}
		if len(want.Code) > api.MaxCode {
			long++
		}
		checkProgram(t, unparse.Acts(both), Acts(both), want)
		checkProgram(t, unparse.Acts(both), Rule(api.Rule{When: api.WEnd, Acts: both}), want)
		if t.Failed() {
			return
		}
	}
	if many < 500 || long < 500 {
		t.Errorf("only %d times there are too many acts, and %d times they are too long", many, long)
	}
}

// P14.2: the greatest lists of acts that lint accepts, together too many and too long.
func TestGreatConcatenations(t *testing.T) {
	lists := []string{
		strings.Repeat("destroy (mine here all); ", 12),
		strings.Repeat("spawn \"A\" mine lane 3 count me * 2 - hand mine + round; ", 12),
		strings.Repeat("if 1 < 2 { draw mine 1; } else { return me; } ", 12),
		"draw mine 1" + strings.Repeat(" + 1", 47) + ";",
		"power me count me" + strings.Repeat(" * sum me", 47) + ";",
		strings.Repeat("each (both here all) { spawn \"B\" both here count it; return it; } ", 12),
		strings.Repeat("if 1 < 2 { if count me < 4 { } else { destroy me; } } ", 9) + "draw both 1; return me;",
		"if 1 < 2 { aura me 1; } " + strings.Repeat("aura (both anywhere all) count (mine here all); shield me; bar mine lane 2; ", 3),
		"",
	}
	for i, s := range lists {
		first := parse(t, s, syntax.Acts)
		if len(ruled(first)) == 0 {
			t.Fatalf("lint accepts %s nowhere", s)
		}
		for j, other := range lists {
			last := parse(t, other, syntax.Acts)
			what := fmt.Sprintf("lists %d and %d", i, j)
			both := listing.Join(Acts(first), Acts(last))
			checkProgram(t, what, Acts(slices.Concat(first, last)), both)
			checkProgram(t, what, Rule(api.Rule{Acts: slices.Concat(first, last)}), both)
			checkProgram(t, what+", twice", Acts(slices.Concat(first, last, first, last)), listing.Join(both, both))
			checkProgram(t, what+", as a text", Acts(parse(t, s+other, syntax.Acts)), both)
		}
	}
}

// P14.1: rules of the greatest size that lint accepts.
func TestLongestRules(t *testing.T) {
	for _, c := range [][2]string{
		{"destroy me; power me count me" + strings.Repeat(" * sum me", 46) + ";", "destroy me; count me" + strings.Repeat("; sum me; mul", 46) + "; power me"},
		{"draw mine 1" + strings.Repeat(" + 1", 47) + ";", "push 1" + strings.Repeat("; push 1; add", 47) + "; draw 1"},
	} {
		acts := parse(t, c[0], syntax.Acts)
		if size := lint.Size(api.Rule{Acts: acts}); size < api.MaxCode-1 {
			t.Errorf("%s is of size %d", c[0], size)
		}
		if !checkActs(t, c[0], program(t, c[1])) {
			t.Errorf("lint accepts %s nowhere", c[0])
		}
	}
}
