package lint

import (
	"strings"
	"testing"

	"trident/api"
)

// In each of these texts there are at least two faults, and the mark is at the first one.

func TestOrderInFiles(t *testing.T) {
	const wrong = `{ death { } death { } enter { draw mine 1; } }`
	for _, c := range []struct {
		what, s string
		e       api.Errno
	}{
		{"a name twice and a cost", `card "A" cost 1 power 2 { } @card "A" cost 10 power 2 { }`, api.ErrTwice},
		{"a name twice and a rule", `card "A" cost 1 power 2 { } @card "A" cost 1 power 2 ` + wrong, api.ErrTwice},
		{"a name of a location twice and a rule", `place "A" { } @place "A" ` + wrong, api.ErrTwice},
		{"a rule and a name twice", `card "A" cost 1 power 2 { @enter { } } card "A" cost 1 power 2 { }`, api.ErrKind},
		{"a cost and a name twice", `@card "A" cost 10 power 2 { } card "A" cost 1 power 2 { }`, api.ErrRange},
		{"a name twice and a later cost", `card "A" cost 1 power 2 { } @card "A" cost 1 power 2 { } card "B" cost 10 power 2 { }`, api.ErrTwice},
		{"a name that is there first and a cost before it", `card "A" cost 1 power 2 { } @card "B" cost 10 power 2 { } card "A" cost 1 power 2 { }`, api.ErrRange},
		{"a rule of a location and a name twice", `place "A" { @death { } } place "A" { }`, api.ErrKind},
		{"a rule of a location and a name before it", `place "A" { } place "B" { @death { } } place "A" { }`, api.ErrKind},
		{"a location and a later card", `place "A" { death { } } @card "A" cost 10 power 2 { }`, api.ErrRange},
		{"names of locations and of cards", `place "A" { } place "A" { } card "B" cost 1 power 2 { } @card "B" cost 1 power 2 { }`, api.ErrTwice},
		{"a cost and its rules", `@card "A" cost 10 power 2 ` + wrong, api.ErrRange},
		{"a power and its rules", `@card "A" cost 1 power 21 ` + wrong, api.ErrRange},
		{"too many cards and a rule before", named(cardForm, 127) + `card "A" cost 1 power 2 { @enter { } } card "B" cost 1 power 2 { }`, api.ErrKind},
		{"too many locations and a rule before", named(placeForm, 31) + `place "A" { @death { } } place "B" { }`, api.ErrKind},
		{"too many cards and a name before", named(cardForm, 127) + `@card "N 0" cost 1 power 2 { } card "B" cost 1 power 2 { }`, api.ErrTwice},
	} {
		check(t, c.what, c.s, c.e)
	}
}

// ones returns an expr with that many operators, so of size 2n+1.
func ones(n int) string {
	return "1" + strings.Repeat(" + 1", n)
}

func TestOrderInRules(t *testing.T) {
	four := strings.Repeat("end { } ", 4)
	big := "draw both " + ones(48) + ";"
	for _, c := range []struct {
		what, rules string
		e           api.Errno
	}{
		{"too many rules and a kind", four + "@enter { destroy it; }", api.ErrMany},
		{"too many rules and an act", four + "@end { destroy it; }", api.ErrMany},
		{"too many rules and a size", four + "@end { " + big + " }", api.ErrMany},
		{"too many rules and a kind before", "end { } end { } end { } @enter { } end { }", api.ErrKind},
		{"too many rules and a size before", "end { } end { } end { } @end { " + big + " } end { }", api.ErrLong},
		{"too many rules and an act before", "end { } end { } end { } end { @destroy it; } end { }", api.ErrSide},
		{"a kind and an act", "@enter { aura me 1; draw both 1; }", api.ErrKind},
		{"a kind and a size", "@enter { " + big + " }", api.ErrKind},
		{"a stratum and an act", "@always 0 { draw both 1; }", api.ErrRange},
		{"a stratum and a size", "@always 4 { aura me " + ones(48) + "; }", api.ErrRange},
		{"a stratum and a later kind", "@always 4 { } enter { }", api.ErrRange},
		{"a kind and a later stratum", "@enter { } always 4 { }", api.ErrKind},
		{"an act and a size", "end { " + big + " @destroy it; }", api.ErrSide},
		{"an act and a size", "end { " + big + " if 1 < 2 { } else { @aura me 1; } }", api.ErrKind},
		{"too many acts and a size", "end { " + big + strings.Repeat("draw both 1;", 11) + " @draw both 1; }", api.ErrMany},
		{"an act and a kind", "end { @destroy it; } enter { }", api.ErrSide},
		{"a size and a kind", "@end { " + big + " } enter { }", api.ErrLong},
		{"a size and an act of the next rule", "@end { " + big + " } end { destroy it; }", api.ErrLong},
		{"a size and a stratum", "@end { " + big + " } always 4 { }", api.ErrLong},
	} {
		check(t, c.what, `card "A" cost 1 power 2 { `+c.rules+` }`, c.e)
	}
	check(t, "a size and a cost", `card "A" cost 1 power 2 { @end { `+big+` } } card "A" cost 10 power 2 { }`, api.ErrLong)
	check(t, "a size and a name", `place "A" { @end { `+big+` } } place "A" { }`, api.ErrLong)
	check(t, "a kind and an act of a location", `place "A" { @death { destroy me; } }`, api.ErrKind)
	check(t, "too many rules and a kind of a location", `place "A" { `+four+`@moved { destroy me; } }`, api.ErrMany)
}

const (
	// The first fault of these, in a location's rule with "end", is what their names say;
	// others follow it, and the last one has none.
	sideSel  = "(mine lane 4 cost < 3 cost < 3 cost < 3 cost < 3 cost < 3 all)"
	itSel    = "(both lane 4 cost < 3 cost < 3 cost < 3 cost < 3 not it all)"
	meSel    = "(both lane 4 cost < 3 cost < 3 cost < 3 cost < 3 not me all)"
	laneSel  = "(both lane 4 cost < 3 cost < 3 cost < 3 cost < 3 cost < 3 all)"
	manySel  = "(both lane 3 cost < 3 cost < 3 cost < 3 cost < 3 cost < 3 all)"
	rightSel = "(both lane 3 cost < 3 cost < 3 cost < 3 cost < 3 all)"
)

func TestOrderInSels(t *testing.T) {
	for _, f := range withSel() {
		for _, c := range []struct {
			sel string
			e   api.Errno
		}{{sideSel, api.ErrSide}, {itSel, api.ErrSide}, {meSel, api.ErrSide}, {laneSel, api.ErrLane}, {manySel, api.ErrMany}, {rightSel, api.OK}} {
			when := "end"
			if f.always {
				when = "always 1"
			}
			check(t, "a sel", `place "A" { `+when+` { `+strings.Replace(f.act, "%s", c.sel, 1)+` } }`, c.e)
		}
	}
}

// The parts of acts, from those that are looked at first.
func TestOrderInActs(t *testing.T) {
	twelve := strings.Repeat("draw both 1; ", 12)
	for _, c := range []struct {
		acts string
		e    api.Errno
	}{
		{twelve + "@aura (both here all) 1;", api.ErrMany},
		{twelve + "@destroy me;", api.ErrMany},
		{twelve + "@each (both here all) { each (both here all) { } }", api.ErrMany},
		{"each (both here all) { " + twelve + "@each (both lane 4 all) { } }", api.ErrMany},
		{"draw both 1; @destroy me; " + twelve, api.ErrSide},
		{"@aura me 1;", api.ErrKind},
		{"@shield (both lane 4 all);", api.ErrKind},
		{"@bar mine lane 4;", api.ErrKind},
		{"each (both here all) { @each me { } }", api.ErrDepth},
		{"each (both here all) { @each " + laneSel + " { " + twelve + "draw both 1; } }", api.ErrDepth},
		{"@each " + manySel + " { each (both here all) { } }", api.ErrMany},
		{"@power " + laneSel + " count " + manySel + ";", api.ErrLane},
		{"@power " + manySel + " count " + laneSel + ";", api.ErrMany},
		{"@power " + manySel + " hand mine;", api.ErrMany},
		{"@set " + laneSel + " count me;", api.ErrLane},
		{"@set me sum " + laneSel + ";", api.ErrSide},
		{"@move " + manySel + " lane 4;", api.ErrMany},
		{"@move me lane 4;", api.ErrSide},
		{"@spawn \"A\" mine lane 4 count " + manySel + ";", api.ErrSide},
		{"@spawn \"A\" both lane 4 count " + manySel + ";", api.ErrLane},
		{"@spawn \"A\" both lane 0 count me;", api.ErrLane},
		{"@spawn \"A\" both lane 1 count " + manySel + ";", api.ErrMany},
		{"@draw mine count " + laneSel + ";", api.ErrSide},
		{"@energy theirs count " + manySel + ";", api.ErrSide},
		{"@draw both free mine lane 4;", api.ErrSide},
		{"@draw both free both lane 4 + hand mine;", api.ErrLane},
		{"@draw both hand mine + free both lane 4;", api.ErrSide},
		{"@draw both count " + manySel + " * free both lane 4;", api.ErrMany},
		{"@draw both (1 + free both lane 4) * count " + manySel + ";", api.ErrLane},
		{"@draw both 1 + count " + manySel + " - (2 + hand mine * free both lane 4);", api.ErrMany},
		{"@draw both 1 - (2 + free both lane 4 - count me) * count " + manySel + ";", api.ErrLane},
		{"@if hand mine < free both lane 4 { destroy me; }", api.ErrSide},
		{"@if free both lane 4 < hand mine { destroy me; }", api.ErrLane},
		{"@if 1 + 1 < free both lane 4 { destroy me; } else { aura me 1; }", api.ErrLane},
		{"@if count " + manySel + " < 1 { " + twelve + twelve + " }", api.ErrMany},
		{"if 1 < 2 { @destroy me; } else { aura me 1; }", api.ErrSide},
		{"if 1 < 2 { @aura me 1; } else { " + twelve + " draw both 1; }", api.ErrKind},
		{"if 1 < 2 { if 1 < 2 { } else { @draw mine 1; } aura me 1; } else { move me lane 4; }", api.ErrSide},
		{"if 1 < 2 { } else { @move (both here all) lane 4; } destroy me;", api.ErrLane},
		{"each (both here all) { @move (both here all) lane 4; } destroy me;", api.ErrLane},
		{"@move (both here all) lane 4; each me { destroy me; }", api.ErrLane},
		{"@each me { move it lane 4; }", api.ErrSide},
		{"each (both here all) { power it 1; @destroy me; } aura me 1;", api.ErrSide},
	} {
		check(t, "two faults", `place "A" { end { `+c.acts+` } }`, c.e)
		check(t, "two faults and other rules", "place \"A\"\n{ reveal { draw both 1; } end { "+c.acts+" }\nmoved { } }", c.e)
	}
	for _, c := range []struct {
		acts string
		e    api.Errno
	}{
		{"@power me 1;", api.ErrKind},
		{"@each me { each me { } }", api.ErrKind},
		{"@draw mine free both lane 4;", api.ErrKind},
		{"@double mine lane 4;", api.ErrSide},
		{"@bar theirs lane 0;", api.ErrSide},
		{"@aura " + laneSel + " count me;", api.ErrLane},
		{"@aura me count " + laneSel + ";", api.ErrSide},
		{"if 1 < 2 { @each me { } } else { aura me 1; }", api.ErrKind},
		{"@if 1 < hand mine { each me { } }", api.ErrSide},
	} {
		check(t, "two faults of continuous effects", `place "A" { always 1 { `+c.acts+` } }`, c.e)
	}
}
