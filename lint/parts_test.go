package lint

import (
	"fmt"
	"strings"
	"testing"

	"trident/api"
)

// place is where acts stand: the text before them and behind them, and what they may be
// and speak of there.
type place struct {
	before, behind string
	// always is whether the effects are continuous, each whether there is an "each" around.
	always, each bool
	// me, it and owner are whether there is a card of the rule, "it" is defined, and whether
	// there are "mine" and "theirs".
	me, it, owner bool
}

// in returns the place in p where .. stands.
func (p place) in(inner string) place {
	before, behind, _ := strings.Cut(inner, "..")
	p.before += before
	p.behind = behind + p.behind
	return p
}

// inEach is in where .. stands in an "each".
func (p place) inEach(inner string) place {
	p = p.in(inner)
	p.each = true
	p.it = true
	return p
}

// roots are the rules of cards and of locations.
func roots() []place {
	var list []place
	for _, when := range []string{"reveal", "death", "moved", "end"} {
		list = append(list, place{before: `card "A" cost 1 power 2 { ` + when + " {", behind: "} }", me: true, owner: true})
	}
	return append(list,
		place{before: `card "A" cost 1 power 2 { end { } always 2 {`, behind: "} reveal { } }", me: true, owner: true, always: true},
		place{before: `place "A" { reveal {`, behind: "} }"},
		place{before: `place "A" { enter { } end {`, behind: "} enter { } }"},
		place{before: `place "A" { always 3 {`, behind: "} enter { } }", always: true},
		place{before: `place "A" { end { } enter {`, behind: "} end { } }", it: true, owner: true},
	)
}

// allPlaces returns the rules, blocks of "if" and of "each" in them, and what is behind
// blocks.
func allPlaces() []place {
	var list []place
	for _, p := range roots() {
		list = append(list, p, p.in("if 1 < 2 {..}"), p.in("if 1 < 2 { } else {..}"), p.in("if 1 < 2 { if 1 < 2 { } else {..} } else { }"), p.in("if 1 < 2 { } .."))
		if p.always {
			continue
		}
		list = append(list,
			p.inEach("each (both here all) {..}"), p.inEach("each (both here all) { if 1 < 2 {..} }"), p.inEach("each (both here all) { if 1 < 2 { } else {..} }"),
			p.inEach("if 1 < 2 { each (both here all) {..} }"), p.inEach("if 1 < 2 { } else { each (both here all) { if 1 < 2 { } else { if 1 < 2 {..} } } }"),
			p.in("each (both here all) { } .."), p.in("if 1 < 2 { each (both here all) { draw both 1; } } else {..}"), p.in("each (both here all) { if 1 < 2 { } } if 1 < 2 {..}"))
	}
	return list
}

// checkAt checks acts in a place.
func checkAt(t *testing.T, what string, p place, acts string, e api.Errno) {
	t.Helper()
	s, want := unmarked(p.before+acts+p.behind, e)
	if got := Check(parse(t, what, s)); got != want {
		t.Errorf("%s: %.3000s\nhas the fault %v, want %v", what, s, got, want)
	}
}

// form is an act with a part left open.
type form struct {
	act    string
	always bool
	// both is whether the act may stand in every rule, each whether it is an "each".
	both, each bool
}

// fits reports whether the act may stand there.
func (f form) fits(p place) bool {
	return (f.both || f.always == p.always) && !(f.each && p.each)
}

// actForms are acts of each kind.
var actForms = []form{
	{act: "power (both here all) 1;"},
	{act: "set (both here all) 1;"},
	{act: "destroy (both here all);"},
	{act: "move (both here all) left;"},
	{act: "return (both here all);"},
	{act: "spawn \"X\" both here 1;"},
	{act: "draw both 1;"},
	{act: "discard both first;"},
	{act: "energy both 1;"},
	{act: "aura (both here all) 1;", always: true},
	{act: "double both here;", always: true},
	{act: "shield (both here all);", always: true},
	{act: "bar both here;", always: true},
	{act: "if 1 < 2 { }", both: true},
	{act: "if 1 < 2 { } else { }", both: true},
	{act: "each (both here all) { }", each: true},
}

func TestKindsOfActs(t *testing.T) {
	for _, p := range allPlaces() {
		for _, f := range actForms {
			want := api.OK
			switch {
			case !f.both && f.always != p.always:
				want = api.ErrKind
			case f.each && p.each:
				want = api.ErrDepth
			}
			checkAt(t, "an act", p, "@"+f.act, want)
			checkAt(t, "a later act", p, "if 1 < 2 { } @"+f.act+f.act, want)
		}
	}
}

func TestNumbersOfActs(t *testing.T) {
	for _, p := range allPlaces() {
		for _, f := range actForms {
			// Some places have an act in front.
			n := api.MaxActs
			if strings.HasSuffix(p.before, " ") {
				n--
			}
			if !f.fits(p) {
				act := "if 1 < 2 { }"
				checkAt(t, "a 13th act that may not be there", p, strings.Repeat(act, n)+"@"+f.act, api.ErrMany)
				continue
			}
			checkAt(t, "12 acts", p, strings.Repeat(f.act, n), api.OK)
			checkAt(t, "13 acts", p, strings.Repeat(f.act, n)+"@"+f.act, api.ErrMany)
			checkAt(t, "15 acts", p, strings.Repeat(f.act, n)+"@"+f.act+f.act+f.act, api.ErrMany)
		}
	}
}

// Acts are counted in each block alone.
func TestNumbersOfActsOfBlocks(t *testing.T) {
	const twelve = "draw both 1; destroy me; draw both 1; destroy me; draw both 1; destroy me; draw both 1; destroy me; draw both 1; destroy me; draw both 1; destroy me;"
	const few = "destroy me; destroy me; destroy me; destroy me; destroy me; destroy me; destroy me; destroy me; destroy me; destroy me; destroy me;"
	for _, c := range []struct {
		acts string
		e    api.Errno
	}{
		{"if 1 < 2 {" + twelve + "} else {" + twelve + "} each me {" + twelve + "}", api.OK},
		{few + "each me {" + twelve + "}", api.OK},
		{"each me {" + twelve + "}" + few, api.OK},
		{few + "destroy me; @each me { destroy me; }", api.ErrMany},
		{"if 1 < 2 {" + twelve + "@draw both 1; } else {" + twelve + "}", api.ErrMany},
		{"if 1 < 2 {" + twelve + "} else {" + twelve + "@draw both 1; }", api.ErrMany},
		{"each me {" + twelve + "@draw both 1; }", api.ErrMany},
		{few + "each me { if 1 < 2 { } else {" + twelve + "@draw both 1; } }", api.ErrMany},
	} {
		check(t, "acts of blocks", `card "A" cost 1 power 2 { end {`+c.acts+`} }`, c.e)
	}
}

// An "each" is inside another one also through an "if", but not behind one.
func TestEachInsideEach(t *testing.T) {
	for _, c := range []struct {
		acts string
		e    api.Errno
	}{
		{"each me { @each it { } }", api.ErrDepth},
		{"each me { destroy it; @each it { } }", api.ErrDepth},
		{"each me { if 1 < 2 { @each it { } } }", api.ErrDepth},
		{"each me { if 1 < 2 { } else { @each it { } } }", api.ErrDepth},
		{"if 1 < 2 { each me { if 1 < 2 { if 1 < 2 { } else { @each it { } } } } }", api.ErrDepth},
		{"each me { @each it { each it { } } }", api.ErrDepth},
		{"each me { } each me { }", api.OK},
		{"each me { } if 1 < 2 { each me { } } else { each me { } } each me { destroy it; }", api.OK},
		{"if 1 < 2 { each me { } each me { } } each me { if 1 < 2 { } }", api.OK},
		{"each me { } if 1 < 2 { } else { each me { @each it { } } }", api.ErrDepth},
	} {
		check(t, "each", `card "A" cost 1 power 2 { end {`+c.acts+`} }`, c.e)
	}
}

// exprForms are exprs with an operand left open.
var exprForms = []string{"%s", "%s - 2", "(1 - 2 * %s) * 3"}

// withExpr returns acts with an expr left open.
func withExpr() []form {
	return []form{
		{act: "@power (both here all) %s;"}, {act: "@set (both here all) %s;"}, {act: "@spawn \"X\" both here %s;"}, {act: "@draw both %s;"},
		{act: "@energy both %s;"}, {act: "@aura (both here all) %s;", always: true},
		{act: "@if %s < 2 { }", both: true}, {act: "@if 1 = %s { } else { }", both: true},
	}
}

// fill returns the forms with that in what is left open.
func fill(forms []form, parts ...string) []form {
	var list []form
	for _, f := range forms {
		for _, s := range parts {
			g := f
			g.act = fmt.Sprintf(f.act, s)
			list = append(list, g)
		}
	}
	return list
}

// withLeaf returns acts with an expr left open that is an operand or all of an expr.
func withLeaf(leaves ...string) []form {
	var parts []string
	for _, leaf := range leaves {
		for _, s := range exprForms {
			parts = append(parts, fmt.Sprintf(s, leaf))
		}
	}
	return fill(withExpr(), parts...)
}

// withSel returns acts with a sel left open.
func withSel() []form {
	return append(withLeaf("count %s", "sum %s"),
		form{act: "@power %s 1;"}, form{act: "@set %s 1;"}, form{act: "@destroy %s;"}, form{act: "@move %s left;"}, form{act: "@return %s;"},
		form{act: "@each %s { }", each: true}, form{act: "@each %s { draw both 1; }", each: true},
		form{act: "@aura %s 1;", always: true}, form{act: "@shield %s;", always: true})
}

// withSide returns acts with whose something is left open.
func withSide() []form {
	return append(withLeaf("hand %s", "free %s lane 2"),
		form{act: "@spawn \"X\" %s here 1;"}, form{act: "@draw %s 1;"}, form{act: "@discard %s last;"}, form{act: "@energy %s 1;"},
		form{act: "@double %s here;", always: true}, form{act: "@bar %s right;", always: true})
}

// withTo returns acts with a lane left open.
func withTo() []form {
	return append(withLeaf("free both %s"),
		form{act: "@spawn \"X\" both %s 1;"}, form{act: "@move (both here all) %s;"},
		form{act: "@double both %s;", always: true}, form{act: "@bar both %s;", always: true})
}

// checkForms checks the acts with a part wherever they fit.
func checkForms(t *testing.T, what string, forms []form, part string, want func(p place) api.Errno) {
	t.Helper()
	for _, p := range allPlaces() {
		for _, f := range fill(forms, part) {
			if f.fits(p) {
				checkAt(t, what+" "+part, p, f.act, want(p))
			}
		}
	}
}

// unless returns that error, or none if ok is true.
func unless(ok bool, e api.Errno) api.Errno {
	if ok {
		return api.OK
	}
	return e
}

func TestItAndMe(t *testing.T) {
	for _, s := range []string{"it", "(both here not it all)", "(both lane 1 cost < 3 not it named \"A\" first)"} {
		checkForms(t, "it", withSel(), s, func(p place) api.Errno { return unless(p.it, api.ErrSide) })
	}
	for _, s := range []string{"me", "(both away not me last)", "(both anywhere power = 3 not me cost > 1 all)"} {
		checkForms(t, "me", withSel(), s, func(p place) api.Errno { return unless(p.me, api.ErrSide) })
	}
	both := func(p place) api.Errno { return unless(p.it && p.me, api.ErrSide) }
	checkForms(t, "both", withSel(), "(both here not me not it all)", both)
	checkForms(t, "both", withSel(), "(both here not it not me all)", both)
}

func TestOtherSels(t *testing.T) {
	for _, s := range []string{"(both here all)", "(both away first)", "(both anywhere last)", "(both lane 3 weakest)", "(both here cost < 99 power >= -99 named \"it\" strongest)"} {
		checkForms(t, "a sel", withSel(), s, func(place) api.Errno { return api.OK })
	}
}

// The sel of an "each" stands before its block, so it is not about the "it" of that.
func TestItOfAnEach(t *testing.T) {
	check(t, "it of an each", `card "A" cost 1 power 2 { end { @each it { } } }`, api.ErrSide)
	check(t, "it of an each", `place "A" { enter { @each it { power it 1; } power it 1; } }`, api.OK)
	check(t, "it behind an each", `card "A" cost 1 power 2 { end { each me { destroy it; } @destroy it; } }`, api.ErrSide)
	check(t, "it behind an each in an if", `card "A" cost 1 power 2 { end { if 1 < 2 { each me { destroy it; } @destroy it; } } }`, api.ErrSide)
	check(t, "it in the other block", `card "A" cost 1 power 2 { end { if 1 < 2 { each me { destroy it; } } else { @destroy it; } } }`, api.ErrSide)
	check(t, "it in the next rule", `card "A" cost 1 power 2 { end { each me { destroy it; } } end { @destroy it; } }`, api.ErrSide)
	check(t, "it behind a rule with enter", `place "A" { enter { destroy it; } end { @destroy it; } }`, api.ErrSide)
	check(t, "it in the next location", `place "A" { enter { destroy it; } } place "B" { end { @destroy it; } }`, api.ErrSide)
}

func TestMineAndTheirs(t *testing.T) {
	for _, whose := range []string{"mine", "theirs", "both"} {
		want := func(p place) api.Errno { return unless(whose == "both" || p.owner, api.ErrSide) }
		checkForms(t, "whose", withSide(), whose, want)
		checkForms(t, "whose", withSel(), "("+whose+" here all)", want)
		checkForms(t, "whose", withSel(), "("+whose+" lane 2 cost = 3 weakest)", want)
	}
}

func TestLanes(t *testing.T) {
	for _, n := range []int{0, 1, 2, 3, 4, 99} {
		want := func(place) api.Errno { return unless(n >= 1 && n <= 3, api.ErrLane) }
		checkForms(t, "a lane", withTo(), fmt.Sprintf("lane %d", n), want)
		checkForms(t, "a lane", withSel(), fmt.Sprintf("(both lane %d all)", n), want)
	}
	for _, to := range []string{"here", "left", "right"} {
		checkForms(t, "a lane", withTo(), to, func(place) api.Errno { return api.OK })
	}
	// No text has a lane below 0, or one where none is called by its number.
	for _, n := range []int{-1, -1 << 63, 1<<63 - 1} {
		for where := range 6 {
			sel := api.Sel{Kind: api.SelAll, Side: api.Both, Where: where, Lane: n, Pick: api.All}
			to := api.To{Kind: where, Lane: n}
			acts := [2]api.Act{{Kind: api.ADestroy, Line: 7, Col: 8, Sel: sel}, {Kind: api.AMove, Line: 7, Col: 8, To: to}}
			for i, called := range []bool{where == api.InLane, where == api.ToLane} {
				want := api.Fault{}
				if called {
					want = api.Fault{E: api.ErrLane, Line: 7, Col: 8}
				}
				if got := Card(api.Card{Rules: []api.Rule{{When: api.WEnd, Acts: acts[i : i+1]}}}); got != want {
					t.Errorf("%v has the fault %v, want %v", acts[i], got, want)
				}
			}
		}
	}
}

func TestNumbersOfFilters(t *testing.T) {
	for n := range 8 {
		want := func(place) api.Errno { return unless(n <= 4, api.ErrMany) }
		checkForms(t, "filters", withSel(), "(both here"+strings.Repeat(" cost < 3", n)+" all)", want)
	}
	five := func(place) api.Errno { return api.ErrMany }
	checkForms(t, "filters", withSel(), "(both lane 1 cost < 3 power = -2 named \"A\" power > 3 named \"A\" first)", five)
	four := func(p place) api.Errno { return unless(p.me, api.ErrSide) }
	checkForms(t, "filters", withSel(), "(both lane 1 power = -2 not me not me not me first)", four)
	check(t, "filters of two sels", `card "A" cost 1 power 2 { end { power (both here cost < 3 cost < 3 cost < 3 cost < 3 all) count (both here cost < 3 cost < 3 cost < 3 cost < 3 all); } }`, api.OK)
}
