package unparse

import (
	"math"
	"math/rand"
	"reflect"
	"slices"
	"strings"
	"testing"

	"trident/api"
	"trident/internal/odd"
	"trident/syntax"
)

// cloned returns v with lists of its own, each as long as length says.
func cloned(v reflect.Value, length func(reflect.Value) int) reflect.Value {
	all := reflect.New(v.Type()).Elem()
	switch v.Kind() {
	case reflect.Struct:
		for i := range v.NumField() {
			all.Field(i).Set(cloned(v.Field(i), length))
		}
	case reflect.Slice:
		v = v.Slice(0, length(v))
		for i := range v.Len() {
			all.Set(reflect.Append(all, cloned(v.Index(i), length)))
		}
	case reflect.Interface:
		all.Set(cloned(v.Elem(), length))
	default:
		all.Set(v)
	}
	return all
}

// whole writes a value and what is behind the ends of its lists.
func whole(tree any) string {
	return shown(cloned(reflect.ValueOf(tree), reflect.Value.Cap).Interface())
}

// visit calls f with all that v holds, with the names of fields.
func visit(name string, v reflect.Value, f func(name string, v reflect.Value)) {
	f(name, v)
	switch v.Kind() {
	case reflect.Struct:
		for i := range v.NumField() {
			visit(v.Type().Field(i).Name, v.Field(i), f)
		}
	case reflect.Slice:
		for i := range v.Len() {
			visit("", v.Index(i), f)
		}
	}
}

// stripped returns the file with all that is called Line or Col set to 0.
func stripped(file api.File) api.File {
	file = cloned(reflect.ValueOf(file), reflect.Value.Len).Interface().(api.File)
	visit("", reflect.ValueOf(&file).Elem(), func(name string, v reflect.Value) {
		if name == "Line" || name == "Col" {
			v.SetInt(0)
		}
	})
	return file
}

// spans returns where the lists of a file begin and end in memory, with what is behind
// their ends, in order.
func spans(file api.File) [][2]uintptr {
	var list [][2]uintptr
	visit("", reflect.ValueOf(file), func(_ string, v reflect.Value) {
		if v.Kind() == reflect.Slice && v.Cap() > 0 {
			begin := v.Pointer()
			list = append(list, [2]uintptr{begin, begin + uintptr(v.Cap())*v.Type().Elem().Size()})
		}
	})
	slices.SortFunc(list, func(a, b [2]uintptr) int {
		return slices.Compare(a[:], b[:])
	})
	return list
}

// checkStrip checks what Strip returns of a file, and its memory.
func checkStrip(t *testing.T, what string, file api.File) {
	t.Helper()
	before, want := whole(file), shown(stripped(file))
	got := Strip(file)
	if shown(got) != want {
		t.Fatalf("%s: stripped it is\n%.3000s, want\n%.3000s", what, shown(got), want)
	}
	if whole(file) != before {
		t.Fatalf("%s: Strip changed it", what)
	}
	own, given := spans(got), spans(file)
	for i := range len(own) - 1 {
		if own[i][1] > own[i+1][0] {
			t.Fatalf("%s: two lists of the result share memory", what)
		}
	}
	for _, o := range own {
		for _, g := range given {
			if o[0] < g[1] && g[0] < o[1] {
				t.Fatalf("%s: a list of the result shares memory with the argument", what)
			}
		}
	}
}

// P12.2: Strip.

func TestStripOfDrawnFiles(t *testing.T) {
	pen := odd.Pen{Draw: rand.New(rand.NewSource(123)).Intn}
	for n := range 300 {
		checkStrip(t, "a drawn file", pen.File(n%7))
	}
}

func TestStripOfTexts(t *testing.T) {
	checkStrip(t, "no cards", api.File{})
	checkStrip(t, "empty lists", api.File{Cards: []api.Card{}, Places: []api.Place{{Rules: []api.Rule{}, Line: 1, Col: 2}}})
	for _, c := range files {
		checkStrip(t, c.what, parse(t, c.what, c.s, syntax.Parse))
	}
	for _, c := range acts {
		list := parse(t, c.what, c.s, syntax.Acts)
		checkStrip(t, c.what, fileOf(list))
		checkStrip(t, c.what, api.File{Places: []api.Place{{Name: "A", Rules: []api.Rule{{When: api.WEnd, Acts: list}}}}})
	}
}

// everywhere is a text with something that has a position at every place and at every
// depth, and its form is the same text.
const everywhere = `card "A" cost 1 power -2 { reveal { if count (mine here cost < 3 all) < round * -2 { each (both anywhere not it last) { if 1 = 2 { power it 1; } else { set it 2; shield it; } } } else { each me { destroy it; } draw mine 1; } move me left; } always 3 { } }
card "B" cost 0 power 0 { }
place "C" { enter { if 1 < 2 { } else { if 3 < 4 { each it { return it; } } } } end { } }
place "D" { }
`

func TestStripOfEveryPosition(t *testing.T) {
	file := parse(t, "everywhere", everywhere, syntax.Parse)
	positions := 0
	count := func(name string, v reflect.Value) {
		if (name == "Line" || name == "Col") && v.Int() != 0 {
			positions++
		}
	}
	visit("", reflect.ValueOf(file), count)
	// Of the cards and the locations 4, of the rules 4, of the acts 14.
	if positions != 2*(4+4+14) {
		t.Errorf("there are %d numbers of positions", positions)
	}
	checkStrip(t, "everywhere", file)
	checkText(t, "everywhere", File(file), everywhere)
	positions = 0
	got := Strip(file)
	visit("", reflect.ValueOf(got), count)
	if positions != 0 {
		t.Errorf("stripped there are %d", positions)
	}
	checkText(t, "everywhere, stripped", File(got), everywhere)
	if again := Strip(got); shown(again) != shown(got) {
		t.Errorf("stripped twice it is\n%s, want\n%s", shown(again), shown(got))
	}
}

// A position that is alone somewhere, of a file that has no other.
func TestStripOfOnePosition(t *testing.T) {
	for _, n := range []int{1, -1, 65536, math.MinInt, math.MaxInt} {
		act := api.Act{Kind: api.AShield, Line: n}
		for depth := range 6 {
			for _, at := range []api.Act{act, {Kind: api.AShield, Col: n}} {
				for d := range depth {
					inner := []api.Act{{}, at}
					if (d+depth)%2 == 0 {
						at = api.Act{Kind: api.AIf, Then: inner}
					} else {
						at = api.Act{Kind: api.AIf, Else: inner}
					}
				}
				checkStrip(t, "an act", fileOf([]api.Act{{}, at, {}}))
			}
		}
		checkStrip(t, "a card", api.File{Cards: []api.Card{{}, {Line: n}, {Col: n}}})
		checkStrip(t, "a location", api.File{Places: []api.Place{{}, {Line: n}, {Col: n}}})
		checkStrip(t, "a rule", api.File{Places: []api.Place{{}, {Rules: []api.Rule{{}, {Line: n}, {Col: n}}}}})
	}
}

// P12.2, R3: lists that share memory in the argument do not in the result.
func TestStripOfSharedLists(t *testing.T) {
	filters := []api.Filter{{Kind: api.FNotMe}, {Kind: api.FNotIt}, {Kind: api.FNotMe}}
	sel := api.Sel{Kind: api.SelAll, Filters: filters}
	kids := []api.Expr{{Kind: api.ECount, Sel: sel}, {Kind: api.ESum, Sel: api.Sel{Filters: filters[:1]}}}
	expr := bin(api.Plus, kids...)
	kids2 := []api.Expr{expr, expr, {Kind: api.EBin, Kids: kids[1:]}}
	expr2 := bin(api.Times, kids2...)
	list := []api.Act{
		{Kind: api.APower, Line: 1, Col: 2, Sel: sel, Num: expr},
		{Kind: api.AIf, Line: 3, Col: 4, Sel: sel, Cond: api.Cond{L: expr2, R: expr2}, Num: expr2},
	}
	block := []api.Act{{Kind: api.AIf, Line: 5, Col: 6, Then: list, Else: list}, {Kind: api.AIf, Then: list[:1], Else: list[1:]}}
	rules := []api.Rule{{Line: 7, Col: 8, Acts: block}, {Acts: block}, {Acts: block[:1]}}
	cards := []api.Card{{Line: 9, Col: 10, Rules: rules}, {Rules: rules[:2]}, {Rules: rules[1:]}}
	checkStrip(t, "shared lists", api.File{Cards: cards, Places: []api.Place{{Line: 11, Col: 12, Rules: rules}, {Rules: rules[:1]}}})
	checkStrip(t, "the beginnings of lists", api.File{Cards: cards[:1], Places: []api.Place{{Rules: rules[:0]}}})
}

// R3: what the caller does with the argument or with one part of the result afterwards is
// seen nowhere else.
func TestStripIsNotKept(t *testing.T) {
	file := parse(t, "everywhere", everywhere, syntax.Parse)
	got := Strip(file)
	want := shown(got)
	visit("", reflect.ValueOf(&file).Elem(), func(_ string, v reflect.Value) {
		if v.Kind() == reflect.Int {
			v.SetInt(77)
		}
	})
	if shown(got) != want {
		t.Errorf("with the argument changed, it is\n%s, want\n%s", shown(got), want)
	}
	other := Strip(got)
	visit("", reflect.ValueOf(&got).Elem(), func(_ string, v reflect.Value) {
		if v.Kind() == reflect.Int {
			v.SetInt(78)
		}
	})
	if shown(other) != want {
		t.Errorf("with another result changed, it is\n%s, want\n%s", shown(other), want)
	}
}

// P12.2 holds of every file, so of a deep one too.
func TestStripOfDeepFiles(t *testing.T) {
	const levels = 65536
	act, expr := api.Act{Kind: api.AShield, Line: 1, Col: 2}, num(7)
	for n := range levels {
		if n%2 == 0 {
			act = api.Act{Kind: api.AIf, Line: n, Col: 1, Then: []api.Act{act}}
		} else {
			act = api.Act{Kind: api.AIf, Line: 1, Col: n, Else: []api.Act{act}}
		}
		expr = bin(api.Plus, expr)
	}
	got := Strip(fileOf([]api.Act{act, {Num: expr}})).Cards[0].Rules[0].Acts
	expr = got[1].Num
	for range levels {
		expr = expr.Kids[0]
	}
	if shown(expr) != shown(num(7)) {
		t.Errorf("the innermost expr is %v", expr)
	}
	act = got[0]
	for range levels {
		if act.Kind != api.AIf || act.Line != 0 || act.Col != 0 || len(act.Then)+len(act.Else) != 1 {
			t.Fatalf("an act is of kind %d at %d, %d and has %d and %d acts", act.Kind, act.Line, act.Col, len(act.Then), len(act.Else))
		}
		act = append(act.Then, act.Else...)[0]
	}
	if want := (api.Act{Kind: api.AShield}); shown(act) != shown(want) {
		t.Errorf("the innermost act is %v", act)
	}
}

// R1: trees that no text has.

// checkEnds checks that all functions return, that they change nothing of the trees, and
// that they return the same again.
func checkEnds(t *testing.T, file api.File, acts []api.Act, sel api.Sel, expr api.Expr) {
	t.Helper()
	all := func() string {
		list := []string{File(file), Acts(acts), Sel(sel), Expr(expr), File(fileOf(acts)), File(fileOf(actsOf(expr)))}
		for _, c := range file.Cards {
			list = append(list, Card(c))
		}
		for _, p := range file.Places {
			list = append(list, Place(p))
		}
		return strings.Join(list, "|")
	}
	before := whole([]any{file, acts, sel, expr})
	if first := all(); all() != first {
		t.Errorf("the second answer of %s differs from the first one", before)
	}
	if whole([]any{file, acts, sel, expr}) != before {
		t.Errorf("the functions changed %s", before)
	}
	checkStrip(t, "acts", fileOf(acts))
	checkStrip(t, "an expr", fileOf(actsOf(expr)))
}

func TestDrawnTreesThatNoTextHas(t *testing.T) {
	pen := odd.Pen{Draw: rand.New(rand.NewSource(124)).Intn}
	for n := range 300 {
		deep := n % 6
		checkEnds(t, pen.File(deep), pen.Acts(deep), pen.Sel(deep), pen.Expr(deep))
	}
}

func TestEveryKindThatNoTextHas(t *testing.T) {
	numbers := []int{math.MinInt, math.MinInt + 1, -1000, -1, 0, 999, math.MaxInt - 1, math.MaxInt}
	for n := range 30 {
		numbers = append(numbers, n)
	}
	for _, n := range numbers {
		filters := []api.Filter{{Kind: n, Op: api.Lt, N: n}, {Kind: api.FCost, Op: n, N: n}, {Kind: api.FPower, Op: n}, {Kind: api.FNamed, Name: "\""}}
		for _, sel := range []api.Sel{
			{Kind: n}, {Kind: n, Side: n, Where: n, Lane: n, Pick: n, Filters: filters}, {Kind: api.SelAll, Side: n, Where: n, Lane: n, Pick: n, Filters: filters},
			{Kind: api.SelAll, Where: api.InLane, Lane: n},
		} {
			to := api.To{Kind: n, Lane: n}
			for _, expr := range []api.Expr{
				{Kind: n}, {Kind: n, N: n, Sel: sel, Side: n, To: to, Kids: []api.Expr{{Kind: n}}}, {Kind: api.ENum, N: n}, {Kind: api.EHand, Side: n},
				{Kind: api.ECount, Sel: sel}, {Kind: api.EFree, Side: n, To: to}, {Kind: api.EFree, To: api.To{Kind: api.ToLane, Lane: n}},
				bin(n), bin(n, num(n)), bin(n, num(1), bin(n, num(2))), bin(n, bin(n), bin(n), bin(n, num(n), num(n), num(n), num(n))),
			} {
				cond := api.Cond{Op: n, L: expr, R: expr}
				list := []api.Act{
					{Kind: n}, {Kind: n, Sel: sel, Num: expr, Side: n, To: to, How: n, Name: "\xff", Cond: cond, Then: []api.Act{{Kind: n}}, Else: []api.Act{{Kind: n}}},
					{Kind: api.ADiscard, Side: n, How: n}, {Kind: api.AIf, Cond: cond}, {Kind: api.AEach, Sel: sel}, {Kind: api.ASpawn, Side: n, To: to, Num: expr},
				}
				rules := []api.Rule{{When: n, Stratum: n, Line: n, Col: n, Acts: list}, {When: api.WAlways, Stratum: n}}
				checkEnds(t, api.File{Cards: []api.Card{{Cost: n, Power: n, Rules: rules}}, Places: []api.Place{{Line: n, Rules: rules}}}, list, sel, expr)
			}
		}
	}
}

// EBin with Times, Plus and Minus without operands, with one and with more than two.
func TestOperandsThatNoTextHas(t *testing.T) {
	for _, sign := range []int{api.Plus, api.Minus, api.Times} {
		kids := []api.Expr{}
		for range 5 {
			e := bin(sign, kids...)
			checkEnds(t, fileOf(actsOf(e)), actsOf(e), api.Sel{}, e)
			for _, outer := range []int{api.Plus, api.Minus, api.Times} {
				checkEnds(t, api.File{}, nil, api.Sel{}, bin(outer, e, e))
			}
			kids = append(kids, num(1))
		}
		checkEnds(t, api.File{}, []api.Act{}, api.Sel{Filters: []api.Filter{}}, api.Expr{Kind: api.EBin, N: sign, Kids: []api.Expr{}})
	}
}

func TestDeepTreesThatNoTextHas(t *testing.T) {
	const levels = 65536
	first, last, act := num(1), num(1), api.Act{Kind: api.AShield, Sel: me}
	for n := range levels {
		first = bin(api.Times, bin(api.Plus, first, num(2)), num(3))
		last = bin(api.Minus, num(2), last)
		if n%2 == 0 {
			act = api.Act{Kind: api.AEach, Sel: it, Then: []api.Act{act}}
		} else {
			act = api.Act{Kind: api.AIf, Cond: api.Cond{Op: api.Lt, L: num(1), R: num(2)}, Else: []api.Act{act}}
		}
	}
	checkText(t, "sums and products on the left", Expr(first), strings.Repeat("(", levels)+"1"+strings.Repeat(" + 2) * 3", levels))
	checkText(t, "differences on the right", Expr(last), strings.Repeat("2 - (", levels-1)+"2 - 1"+strings.Repeat(")", levels-1))
	blocks := strings.Repeat("if 1 < 2 { } else { each it { ", levels/2) + "shield me;" + strings.Repeat(" }", levels)
	checkText(t, "blocks", Acts([]api.Act{act}), blocks)
}
