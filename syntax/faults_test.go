package syntax

import (
	"fmt"
	"strings"
	"testing"

	"trident/api"
	"trident/tokens"
)

// wrong is a text and its fault.
type wrong struct {
	what, s string
	fault   api.Fault
}

// P11.2: the faults of the scan, before any other.

// spoils are texts that have a fault whatever they are asked for, and that behind
// other texts still have it.
var spoils = []wrong{
	{"a rune that begins nothing", "!", at(api.ErrChar, 1, 1)},
	{"a capital letter", "X", at(api.ErrChar, 1, 1)},
	{"a byte that is no rune", "\xff", at(api.ErrChar, 1, 1)},
	{"a number of 3 digits", "100", at(api.ErrRange, 1, 1)},
	{"a leading zero", "02", at(api.ErrRange, 1, 1)},
	{"a quote alone", "\"", at(api.ErrName, 1, 1)},
	{"an empty name", "\"\"", at(api.ErrName, 1, 1)},
	{"too long a name", "\"" + strings.Repeat("a", 25) + "\"", at(api.ErrName, 1, 1)},
	{"the first of two faults", "\n $ 100", at(api.ErrChar, 2, 2)},
}

func TestFaultsOfTheScan(t *testing.T) {
	for _, w := range spoils {
		for _, before := range []string{"", "1 +", "power me 1;", "card \"A\" cost 1 power 1 { }", "}", ") ; (", "((((((((( {", "me it \"A\"", "card card", "# so"} {
			s, want := before+"\n"+w.s, w.fault
			want.Line++
			checkFault(t, w.what, s, Expr, want)
			checkFault(t, w.what, s, Acts, want)
			checkFault(t, w.what, s, Parse, want)
		}
	}
}

func TestTooLongATextIsTheFirstFault(t *testing.T) {
	for _, begin := range []string{"1", "destroy me;", "place \"A\" { }", "!", "\"", "100", "}", "(((((((((1", ""} {
		s := begin + strings.Repeat(" ", longest+1-len(begin))
		checkFault(t, "too long a text", s, Expr, at(api.ErrLong, 1, 1))
		checkFault(t, "too long a text", s, Acts, at(api.ErrLong, 1, 1))
		checkFault(t, "too long a text", s, Parse, at(api.ErrLong, 1, 1))
	}
}

// P11.2: ErrEnd and ErrToken.

var wrongExprs = []wrong{
	{"nothing", "", at(api.ErrEnd, 1, 1)},
	{"blanks and a comment alone", " # 1\n ", at(api.ErrEnd, 2, 2)},
	{"a word that begins no expr", "me", at(api.ErrToken, 1, 1)},
	{"a word of no meaning", "counts me", at(api.ErrToken, 1, 1)},
	{"an act", "power me 1;", at(api.ErrToken, 1, 1)},
	{"a sel", "(mine here all)", at(api.ErrToken, 1, 2)},
	{"a name", "\"round\"", at(api.ErrToken, 1, 1)},
	{"a mark + before a number", "+1", at(api.ErrToken, 1, 1)},
	{"a mark * before a number", "*1", at(api.ErrToken, 1, 1)},
	{"a mark of a cond before a number", "<1", at(api.ErrToken, 1, 1)},

	{"a mark - alone", "-", at(api.ErrEnd, 1, 2)},
	{"a mark - before parentheses", "-(1)", at(api.ErrToken, 1, 2)},
	{"a mark - before a mark -", "- -1", at(api.ErrToken, 1, 3)},
	{"a mark - before a word", "1 + -round", at(api.ErrToken, 1, 6)},
	{"a mark - before a name", "-\n\"1\"", at(api.ErrToken, 2, 1)},
	{"a mark - before a comment at the end", "1 - - # 1\n", at(api.ErrEnd, 2, 1)},

	{"no right operand", "1 +", at(api.ErrEnd, 1, 4)},
	{"no right operand of a product", "1 - 2 *\n", at(api.ErrEnd, 2, 1)},
	{"two marks +", "1 + + 2", at(api.ErrToken, 1, 5)},
	{"two marks *", "1 * * 2", at(api.ErrToken, 1, 5)},
	{"a mark + behind a mark *", "1 * + 2", at(api.ErrToken, 1, 5)},

	{"a number behind an expr", "1 2", at(api.ErrToken, 1, 3)},
	{"a word behind an expr", "1 + 2 round", at(api.ErrToken, 1, 7)},
	{"a name behind an expr", "round \"A\"", at(api.ErrToken, 1, 7)},
	{"a mark behind an expr", "1 + 2;", at(api.ErrToken, 1, 6)},
	{"a mark of a cond behind an expr", "1 < 2", at(api.ErrToken, 1, 3)},
	{"a block behind an expr", "1 { }", at(api.ErrToken, 1, 3)},
	{"parentheses behind an expr", "1 (2)", at(api.ErrToken, 1, 3)},
	{"an expr behind parentheses", "(1) 2", at(api.ErrToken, 1, 5)},
	{"a parenthesis that nothing began", "1)", at(api.ErrToken, 1, 2)},
	{"a number behind round", "round 1", at(api.ErrToken, 1, 7)},
	{"a number behind a lane", "free mine lane 1 2", at(api.ErrToken, 1, 18)},
	{"a number behind a lane without one", "free mine here 2", at(api.ErrToken, 1, 16)},

	{"a parenthesis alone", "(", at(api.ErrEnd, 1, 2)},
	{"parentheses around nothing", "()", at(api.ErrToken, 1, 2)},
	{"a parenthesis that does not end", "(1 + 2", at(api.ErrEnd, 1, 7)},
	{"a parenthesis that ends with another mark", "(1 + 2;", at(api.ErrToken, 1, 7)},
	{"parentheses around two numbers", "(1 2)", at(api.ErrToken, 1, 4)},
	{"parentheses around a cond", "(1 = 2)", at(api.ErrToken, 1, 4)},
	{"one parenthesis too few", "((1)", at(api.ErrEnd, 1, 5)},
	{"one parenthesis too many", "((1)))", at(api.ErrToken, 1, 6)},

	{"count of nothing", "count", at(api.ErrEnd, 1, 6)},
	{"count of a number", "count 1", at(api.ErrToken, 1, 7)},
	{"count of a side", "count mine", at(api.ErrToken, 1, 7)},
	{"sum of nothing", "sum + 1", at(api.ErrToken, 1, 5)},
	{"sum of a name", "sum \"me\"", at(api.ErrToken, 1, 5)},
	{"a sel that ends behind its parenthesis", "count (", at(api.ErrEnd, 1, 8)},
	{"a sel without a side", "count (here all)", at(api.ErrToken, 1, 8)},
	{"a sel of me in parentheses", "count (me)", at(api.ErrToken, 1, 8)},
	{"a sel that ends behind its side", "sum (mine", at(api.ErrEnd, 1, 10)},
	{"a sel without where", "count (mine all)", at(api.ErrToken, 1, 13)},
	{"a sel with left", "count (mine left all)", at(api.ErrToken, 1, 13)},
	{"a sel that ends behind lane", "count (mine lane", at(api.ErrEnd, 1, 17)},
	{"a lane without a number", "count (mine lane all)", at(api.ErrToken, 1, 18)},
	{"a lane with a negative number", "count (mine lane -1 all)", at(api.ErrToken, 1, 18)},
	{"a lane with a name", "count (mine lane \"1\" all)", at(api.ErrToken, 1, 18)},
	{"a number behind here", "count (mine here 1 all)", at(api.ErrToken, 1, 18)},
	{"a sel that ends behind where", "count (mine here", at(api.ErrEnd, 1, 17)},
	{"a sel without a pick", "count (mine here)", at(api.ErrToken, 1, 17)},
	{"a sel with cheapest", "count (mine here cheapest)", at(api.ErrToken, 1, 18)},
	{"a sel that ends behind its pick", "count (mine here all", at(api.ErrEnd, 1, 21)},
	{"a sel with two picks", "count (mine here first all)", at(api.ErrToken, 1, 24)},
	{"a filter behind the pick", "count (mine here all not me)", at(api.ErrToken, 1, 22)},
	{"a sel that ends with another mark", "count (mine here all;", at(api.ErrToken, 1, 21)},
	{"two sels", "count me it", at(api.ErrToken, 1, 10)},

	{"a cost without a sign", "count (mine here cost 1 all)", at(api.ErrToken, 1, 23)},
	{"a cost with another mark", "count (mine here cost - 1 all)", at(api.ErrToken, 1, 23)},
	{"a cost with two signs", "count (mine here cost < = 1 all)", at(api.ErrToken, 1, 25)},
	{"a cost without a number", "count (mine here cost <= all)", at(api.ErrToken, 1, 26)},
	{"a cost with an expr", "count (mine here cost <= (1) all)", at(api.ErrToken, 1, 26)},
	{"a cost with round", "count (mine here cost = round all)", at(api.ErrToken, 1, 25)},
	{"a cost with a sum", "count (mine here cost = 1 + 1 all)", at(api.ErrToken, 1, 27)},
	{"a cost with a mark - alone", "count (mine here cost = - all)", at(api.ErrToken, 1, 27)},
	{"a cost that ends behind the mark -", "count (mine here cost = -", at(api.ErrEnd, 1, 26)},
	{"a cost that ends behind its word", "count (mine here cost", at(api.ErrEnd, 1, 22)},
	{"a power without a number", "count (mine here power > all)", at(api.ErrToken, 1, 26)},
	{"a power that ends behind its sign", "count (mine here power >", at(api.ErrEnd, 1, 25)},
	{"a power without a sign", "count (mine here power -1 all)", at(api.ErrToken, 1, 24)},
	{"named without a name", "count (mine here named all)", at(api.ErrToken, 1, 24)},
	{"named with a number", "count (mine here named 1 all)", at(api.ErrToken, 1, 24)},
	{"named at the end", "count (mine here named", at(api.ErrEnd, 1, 23)},
	{"named with two names", "count (mine here named \"A\" \"B\" all)", at(api.ErrToken, 1, 28)},
	{"not without a word", "count (mine here not all)", at(api.ErrToken, 1, 22)},
	{"not with a filter", "count (mine here not named \"A\" all)", at(api.ErrToken, 1, 22)},
	{"not with a name", "count (mine here not \"it\" all)", at(api.ErrToken, 1, 22)},
	{"not at the end", "count (mine here not", at(api.ErrEnd, 1, 21)},
	{"not with both", "count (mine here not me it all)", at(api.ErrToken, 1, 25)},
	{"not not", "count (mine here not not me all)", at(api.ErrToken, 1, 22)},

	{"hand of nobody", "hand", at(api.ErrEnd, 1, 5)},
	{"hand of a sel", "hand me", at(api.ErrToken, 1, 6)},
	{"hand in parentheses", "hand (mine)", at(api.ErrToken, 1, 6)},
	{"hand of two sides", "hand mine theirs", at(api.ErrToken, 1, 11)},
	{"free of nobody", "free", at(api.ErrEnd, 1, 5)},
	{"free without a side", "free here", at(api.ErrToken, 1, 6)},
	{"free without a lane", "free mine", at(api.ErrEnd, 1, 10)},
	{"free away", "free mine away", at(api.ErrToken, 1, 11)},
	{"free anywhere", "free mine anywhere", at(api.ErrToken, 1, 11)},
	{"free in a lane without a number", "free mine lane", at(api.ErrEnd, 1, 15)},
	{"free in a lane with a negative number", "free mine lane -1", at(api.ErrToken, 1, 16)},
	{"free in a lane with an expr", "free mine lane (1)", at(api.ErrToken, 1, 16)},
	{"the first of two faults", "1 + ) (((((((((1", at(api.ErrToken, 1, 5)},
}

func TestWrongExprs(t *testing.T) {
	for _, w := range wrongExprs {
		checkFault(t, w.what, w.s, Expr, w.fault)
	}
}

// The exprs of acts and conds have the same faults, unless they may go on there.
func TestWrongExprsInActs(t *testing.T) {
	for _, c := range []struct{ before, next string }{
		{"power me", ";"}, {"set it", ";"}, {"aura me", ";"}, {"spawn \"A\" mine here", ";"}, {"draw mine", ";"}, {"energy both", ";"},
		{"if", "<"}, {"if round >=", "{"},
	} {
		for _, w := range wrongExprs {
			want := w.fault
			want.Line++
			if !strings.HasSuffix(w.s, c.next) && !strings.Contains(w.s, " "+c.next+" ") {
				checkFault(t, w.what+", in an act", c.before+"\n"+w.s, Acts, want)
			}
		}
	}
}

var wrongActs = []wrong{
	{"a word that begins no act", "me", at(api.ErrToken, 1, 1)},
	{"a word of no meaning", "powers me 1;", at(api.ErrToken, 1, 1)},
	{"a name", "\"power\" me 1;", at(api.ErrToken, 1, 1)},
	{"an expr", "1", at(api.ErrToken, 1, 1)},
	{"a mark ; alone", ";", at(api.ErrToken, 1, 1)},
	{"a block alone", "{ destroy me; }", at(api.ErrToken, 1, 1)},
	{"the end of a block alone", "}", at(api.ErrToken, 1, 1)},
	{"a rule", "reveal { }", at(api.ErrToken, 1, 1)},
	{"a card", "card \"A\" cost 1 power 1 { }", at(api.ErrToken, 1, 1)},
	{"else alone", "else { }", at(api.ErrToken, 1, 1)},
	{"an act that is told as an expr", "count me;", at(api.ErrToken, 1, 1)},

	{"the end of a block behind acts", "destroy me; }", at(api.ErrToken, 1, 13)},
	{"a mark ; behind an act", "destroy me;;", at(api.ErrToken, 1, 12)},
	{"a mark ; behind a block", "each me { };", at(api.ErrToken, 1, 12)},
	{"a number behind an act", "destroy me; 1", at(api.ErrToken, 1, 13)},
	{"a card behind an act", "destroy me; card", at(api.ErrToken, 1, 13)},

	{"power alone", "power", at(api.ErrEnd, 1, 6)},
	{"power of nothing", "power 1;", at(api.ErrToken, 1, 7)},
	{"power without a number", "power me;", at(api.ErrToken, 1, 9)},
	{"power that ends behind its sel", "power me", at(api.ErrEnd, 1, 9)},
	{"power that ends behind its number", "power me 1", at(api.ErrEnd, 1, 11)},
	{"power without a mark ;", "power me 1 power me 1;", at(api.ErrToken, 1, 12)},
	{"power with two numbers", "power me 1 2;", at(api.ErrToken, 1, 12)},
	{"power of a sel of a filter", "power (mine here power power;", at(api.ErrToken, 1, 24)},
	{"set without a number", "set me;", at(api.ErrToken, 1, 7)},
	{"set of a side", "set mine 1;", at(api.ErrToken, 1, 5)},
	{"aura without a number", "aura it;", at(api.ErrToken, 1, 8)},
	{"aura at the end", "aura", at(api.ErrEnd, 1, 5)},

	{"destroy at the end", "destroy", at(api.ErrEnd, 1, 8)},
	{"destroy of nothing", "destroy;", at(api.ErrToken, 1, 8)},
	{"destroy with a number", "destroy me 1;", at(api.ErrToken, 1, 12)},
	{"destroy without a mark ;", "destroy me", at(api.ErrEnd, 1, 11)},
	{"return with a lane", "return me here;", at(api.ErrToken, 1, 11)},
	{"return of a name", "return \"A\";", at(api.ErrToken, 1, 8)},
	{"shield of a side", "shield both;", at(api.ErrToken, 1, 8)},
	{"shield with another end", "shield me}", at(api.ErrToken, 1, 10)},

	{"move without a lane", "move me;", at(api.ErrToken, 1, 8)},
	{"move that ends behind its sel", "move me", at(api.ErrEnd, 1, 8)},
	{"move with a number alone", "move me 1;", at(api.ErrToken, 1, 9)},
	{"move with a lane without a number", "move me lane;", at(api.ErrToken, 1, 13)},
	{"move with a lane and a negative number", "move me lane -1;", at(api.ErrToken, 1, 14)},
	{"move with away", "move me away;", at(api.ErrToken, 1, 9)},
	{"move with two lanes", "move me here left;", at(api.ErrToken, 1, 14)},

	{"spawn of a word", "spawn me mine here 1;", at(api.ErrToken, 1, 7)},
	{"spawn at the end", "spawn", at(api.ErrEnd, 1, 6)},
	{"spawn without a side", "spawn \"A\" here 1;", at(api.ErrToken, 1, 11)},
	{"spawn without a lane", "spawn \"A\" mine 1;", at(api.ErrToken, 1, 16)},
	{"spawn without a number", "spawn \"A\" mine here;", at(api.ErrToken, 1, 20)},
	{"spawn in a lane with one number", "spawn \"A\" mine lane 1;", at(api.ErrToken, 1, 22)},
	{"spawn with a name too many", "spawn \"A\" \"B\" mine here 1;", at(api.ErrToken, 1, 11)},
	{"spawn that ends behind its number", "spawn \"A\" mine here 1", at(api.ErrEnd, 1, 22)},

	{"draw without a side", "draw 1;", at(api.ErrToken, 1, 6)},
	{"draw of a sel", "draw me 1;", at(api.ErrToken, 1, 6)},
	{"draw without a number", "draw mine;", at(api.ErrToken, 1, 10)},
	{"draw at the end", "draw", at(api.ErrEnd, 1, 5)},
	{"energy without a number", "energy theirs;", at(api.ErrToken, 1, 14)},
	{"energy without a side", "energy -1;", at(api.ErrToken, 1, 8)},

	{"discard without a side", "discard first;", at(api.ErrToken, 1, 9)},
	{"discard without a card", "discard mine;", at(api.ErrToken, 1, 13)},
	{"discard all", "discard mine all;", at(api.ErrToken, 1, 14)},
	{"discard weakest", "discard mine weakest;", at(api.ErrToken, 1, 14)},
	{"discard with a number", "discard mine 1;", at(api.ErrToken, 1, 14)},
	{"discard that ends behind its side", "discard both", at(api.ErrEnd, 1, 13)},
	{"discard with two cards", "discard mine first last;", at(api.ErrToken, 1, 20)},

	{"double without a lane", "double mine;", at(api.ErrToken, 1, 12)},
	{"double without a side", "double here;", at(api.ErrToken, 1, 8)},
	{"bar with a number", "bar mine here 1;", at(api.ErrToken, 1, 15)},
	{"bar without a side", "bar lane 1;", at(api.ErrToken, 1, 5)},
	{"bar at the end", "bar mine lane", at(api.ErrEnd, 1, 14)},

	{"if at the end", "if", at(api.ErrEnd, 1, 3)},
	{"if without a cond", "if { }", at(api.ErrToken, 1, 4)},
	{"if with a number alone", "if 1 { }", at(api.ErrToken, 1, 6)},
	{"if with a cond that ends", "if 1", at(api.ErrEnd, 1, 5)},
	{"if with a cond that ends behind its sign", "if 1 <", at(api.ErrEnd, 1, 7)},
	{"if with a cond without a right side", "if 1 < { }", at(api.ErrToken, 1, 8)},
	{"if with a cond of two signs", "if 1 < 2 < 3 { }", at(api.ErrToken, 1, 10)},
	{"if with a cond in parentheses", "if (1 < 2) { }", at(api.ErrToken, 1, 7)},
	{"if with a cond without a left side", "if < 2 { }", at(api.ErrToken, 1, 4)},
	{"if without a block", "if 1 < 2 destroy me;", at(api.ErrToken, 1, 10)},
	{"if that ends behind its cond", "if 1 < 2", at(api.ErrEnd, 1, 9)},
	{"if and a mark ;", "if 1 < 2;", at(api.ErrToken, 1, 9)},
	{"a block that does not end", "if 1 < 2 {", at(api.ErrEnd, 1, 11)},
	{"a block that does not end behind an act", "if 1 < 2 { destroy me;", at(api.ErrEnd, 1, 23)},
	{"a block that ends with another mark", "if 1 < 2 { destroy me; )", at(api.ErrToken, 1, 24)},
	{"a block with a rule", "if 1 < 2 { reveal { } }", at(api.ErrToken, 1, 12)},
	{"a block with a block", "if 1 < 2 { { } }", at(api.ErrToken, 1, 12)},
	{"a block with else", "if 1 < 2 { else { } }", at(api.ErrToken, 1, 12)},
	{"a fault in a block", "if 1 < 2 { destroy; }", at(api.ErrToken, 1, 19)},
	{"else without a block", "if 1 < 2 { } else destroy me;", at(api.ErrToken, 1, 19)},
	{"else with if without a block", "if 1 < 2 { } else if 1 < 2 { }", at(api.ErrToken, 1, 19)},
	{"else at the end", "if 1 < 2 { } else", at(api.ErrEnd, 1, 18)},
	{"a block of else that does not end", "if 1 < 2 { } else { ", at(api.ErrEnd, 1, 21)},
	{"a second else", "if 1 < 2 { } else { } else { }", at(api.ErrToken, 1, 23)},
	{"an else behind an act", "if 1 < 2 { } destroy me; else { }", at(api.ErrToken, 1, 26)},
	{"an else behind each", "each me { } else { }", at(api.ErrToken, 1, 13)},
	{"a fault in a block of else", "if 1 < 2 { } else { draw 1; }", at(api.ErrToken, 1, 26)},

	{"each at the end", "each", at(api.ErrEnd, 1, 5)},
	{"each without a sel", "each { }", at(api.ErrToken, 1, 6)},
	{"each with a cond", "each 1 < 2 { }", at(api.ErrToken, 1, 6)},
	{"each without a block", "each me;", at(api.ErrToken, 1, 8)},
	{"each that ends behind its sel", "each me", at(api.ErrEnd, 1, 8)},
	{"a block of each that does not end", "each me { each it { }", at(api.ErrEnd, 1, 22)},
	{"a fault in a block of each", "each me { each it { } destroy 1; }", at(api.ErrToken, 1, 31)},
	{"the first of two faults", "destroy me\ndraw; $$ ", at(api.ErrChar, 2, 7)},
	{"the first of two faults in the order of tokens", "each me { draw mine } power", at(api.ErrToken, 1, 21)},
}

func TestWrongActs(t *testing.T) {
	for _, w := range wrongActs {
		checkFault(t, w.what, w.s, Acts, w.fault)
	}
}

var wrongFiles = []wrong{
	{"a word that begins no card", "cards", at(api.ErrToken, 1, 1)},
	{"a name", "\"card\"", at(api.ErrToken, 1, 1)},
	{"a number", "\n 1", at(api.ErrToken, 2, 2)},
	{"a mark", "}", at(api.ErrToken, 1, 1)},
	{"a rule", "reveal { }", at(api.ErrToken, 1, 1)},
	{"acts", "power me 1;", at(api.ErrToken, 1, 1)},
	{"an expr", "1 + 2", at(api.ErrToken, 1, 1)},

	{"card at the end", "card", at(api.ErrEnd, 1, 5)},
	{"a card without a name", "card cost 1 power 1 { }", at(api.ErrToken, 1, 6)},
	{"a card with a word for a name", "card a cost 1 power 1 { }", at(api.ErrToken, 1, 6)},
	{"a card that ends behind its name", "card \"A\"", at(api.ErrEnd, 1, 9)},
	{"a card with two names", "card \"A\" \"B\" cost 1 power 1 { }", at(api.ErrToken, 1, 10)},
	{"a card without cost", "card \"A\" power 1 { }", at(api.ErrToken, 1, 10)},
	{"a card with cost in quotes", "card \"A\" \"cost\" 1 power 1 { }", at(api.ErrToken, 1, 10)},
	{"a card with cost without a number", "card \"A\" cost power 1 { }", at(api.ErrToken, 1, 15)},
	{"a card with a negative cost", "card \"A\" cost -1 power 1 { }", at(api.ErrToken, 1, 15)},
	{"a card with cost at the end", "card \"A\" cost", at(api.ErrEnd, 1, 14)},
	{"a card with an expr for a cost", "card \"A\" cost 1 + 1 power 1 { }", at(api.ErrToken, 1, 17)},
	{"a card without power", "card \"A\" cost 1 { }", at(api.ErrToken, 1, 17)},
	{"a card that ends behind its cost", "card \"A\" cost 1", at(api.ErrEnd, 1, 16)},
	{"a card with power before cost", "card \"A\" power 1 cost 1 { }", at(api.ErrToken, 1, 10)},
	{"a card with power without a number", "card \"A\" cost 1 power { }", at(api.ErrToken, 1, 23)},
	{"a card with power and a mark - alone", "card \"A\" cost 1 power - { }", at(api.ErrToken, 1, 25)},
	{"a card with power and a mark + ", "card \"A\" cost 1 power +1 { }", at(api.ErrToken, 1, 23)},
	{"a card with power and a mark - at the end", "card \"A\" cost 1 power -", at(api.ErrEnd, 1, 24)},
	{"a card with an expr for a power", "card \"A\" cost 1 power (1) { }", at(api.ErrToken, 1, 23)},
	{"a card with a sum for a power", "card \"A\" cost 1 power 1 - 1 { }", at(api.ErrToken, 1, 25)},
	{"a card without braces", "card \"A\" cost 1 power 1 card", at(api.ErrToken, 1, 25)},
	{"a card that ends behind its power", "card \"A\" cost 1 power 1", at(api.ErrEnd, 1, 24)},
	{"a card with a mark ;", "card \"A\" cost 1 power 1;", at(api.ErrToken, 1, 24)},
	{"a card that does not end", "card \"A\" cost 1 power 1 {", at(api.ErrEnd, 1, 26)},
	{"a card in a card", "card \"A\" cost 1 power 1 { card", at(api.ErrToken, 1, 27)},
	{"an act in a card", "card \"A\" cost 1 power 1 { power me 1; }", at(api.ErrToken, 1, 27)},
	{"a card with a brace too many", "card \"A\" cost 1 power 1 { } }", at(api.ErrToken, 1, 29)},
	{"a card with a mark ; behind it", "card \"A\" cost 1 power 1 { };", at(api.ErrToken, 1, 28)},

	{"place at the end", "place", at(api.ErrEnd, 1, 6)},
	{"a location without a name", "place { }", at(api.ErrToken, 1, 7)},
	{"a location with a number for a name", "place 1 { }", at(api.ErrToken, 1, 7)},
	{"a location with a cost", "place \"A\" cost 1 { }", at(api.ErrToken, 1, 11)},
	{"a location that ends behind its name", "place \"A\"", at(api.ErrEnd, 1, 10)},
	{"a location that does not end", "place \"A\" { end { }", at(api.ErrEnd, 1, 20)},
	{"a location in a location", "place \"A\" { place \"B\" { } }", at(api.ErrToken, 1, 13)},

	{"a rule without braces", "place \"A\" { end draw mine 1; }", at(api.ErrToken, 1, 17)},
	{"a rule at the end", "place \"A\" { reveal", at(api.ErrEnd, 1, 19)},
	{"a rule that does not end", "place \"A\" { reveal {", at(api.ErrEnd, 1, 21)},
	{"a rule in a rule", "place \"A\" { reveal { death { } } }", at(api.ErrToken, 1, 22)},
	{"a rule of two whens", "place \"A\" { reveal death { } }", at(api.ErrToken, 1, 20)},
	{"a rule with a number", "place \"A\" { reveal 1 { } }", at(api.ErrToken, 1, 20)},
	{"always without a number", "place \"A\" { always { } }", at(api.ErrToken, 1, 20)},
	{"always with a negative number", "place \"A\" { always -1 { } }", at(api.ErrToken, 1, 20)},
	{"always with two numbers", "place \"A\" { always 1 2 { } }", at(api.ErrToken, 1, 22)},
	{"always at the end", "place \"A\" { always", at(api.ErrEnd, 1, 19)},
	{"a rule with a mark ; behind it", "place \"A\" { reveal { }; }", at(api.ErrToken, 1, 23)},
	{"a word of no meaning in a rule", "place \"A\" { reveal { destroyed me; } }", at(api.ErrToken, 1, 22)},
	{"a fault in an act of a rule", "place \"A\" {\n reveal {\n  draw mine 1\n } }", at(api.ErrToken, 4, 2)},
	{"a fault behind a card", "card \"A\" cost 1 power 1 { }\n\tplace \"B\"\n", at(api.ErrEnd, 3, 1)},
	{"a fault behind a location", "place \"B\" { }\n\tcard\n1", at(api.ErrToken, 3, 1)},
	{"the first of two faults", "place card place", at(api.ErrToken, 1, 7)},
}

func TestWrongFiles(t *testing.T) {
	for _, w := range wrongFiles {
		checkFault(t, w.what, w.s, Parse, w.fault)
	}
}

func TestTheLongestTexts(t *testing.T) {
	sum := "1" + strings.Repeat("-1", longest/2-1) + " "
	checkFault(t, "a long difference", sum, Expr, api.Fault{})
	e, _ := Expr(sum)
	for range longest/2 - 1 {
		if e.Kind != api.EBin || e.N != api.Minus || len(e.Kids) != 2 || e.Kids[1].Kind != api.ENum || e.Kids[1].N != 1 {
			t.Fatalf("a long difference has a part of kind %d with %d operands", e.Kind, len(e.Kids))
		}
		e = e.Kids[0]
	}
	checkTree(t, "the innermost part of a long difference", "1", Expr, e)

	checkFault(t, "a long difference without an end", sum[:longest-1]+"-", Expr, at(api.ErrEnd, 1, longest+1))
	checkFault(t, "a long difference with a fault", sum[:longest-1]+"+", Expr, at(api.ErrEnd, 1, longest+1))
	checkFault(t, "marks - alone", strings.Repeat("-", longest), Expr, at(api.ErrToken, 1, 2))
	checkFault(t, "many parentheses", strings.Repeat("(", longest), Expr, at(api.ErrDepth, 1, 9))
	checkFault(t, "many blocks", strings.Repeat("each me{", longest/8), Acts, at(api.ErrDepth, 1, 72))

	acts, fault := Acts(strings.Repeat("bar mine here;", longest/14))
	if len(acts) != longest/14 || fault != (api.Fault{}) {
		t.Fatalf("of %d acts %d are parsed, with the fault %v", longest/14, len(acts), fault)
	}
	for i, act := range acts {
		if shown(act) != shown(put(1, 1+14*i, api.Act{Kind: api.ABar, Side: api.Mine, To: here})) {
			t.Fatalf("act %d is %+v", i, act)
		}
	}
	file, fault := Parse(strings.Repeat("place \"A\" { }\n", longest/14))
	if len(file.Places) != longest/14 || fault != (api.Fault{}) {
		t.Fatalf("of %d locations %d are parsed, with the fault %v", longest/14, len(file.Places), fault)
	}
	checkFault(t, "words without an end", strings.Repeat("x", longest), Parse, at(api.ErrToken, 1, 1))
}

// P11.2: ErrDepth.

// inside returns a text with so many of what it begins and ends with around a middle.
func inside(n int, begin, middle, end string) string {
	return strings.Repeat(begin, n) + middle + strings.Repeat(end, n)
}

// opens are what begins a block that something may stand in, and what ends its act.
var opens = []struct{ begin, end string }{
	{"if 1=1{", "}"}, {"each me{", "}"}, {"if 1=1{}else{", "}"}, {"if 1=1{destroy me;}else{destroy me;", "destroy me;}"},
	{"if (1)=((1)){", "}"}, {"each (mine here not me all){", "}"}, {"if 1=1{", "}else{}"}, {"if 1=1{", "}else{each me{}}"},
}

func TestDepthOfParentheses(t *testing.T) {
	for n := range deepest + 1 {
		checkTree(t, "parentheses", inside(n, "(", "7", ")"), Expr, num(7))
		checkTree(t, "parentheses behind parentheses", inside(n, "(", "7", ")")+"*"+inside(n, "(", "8", ")"), Expr, times(num(7), num(8)))
		checkFault(t, "parentheses without an end", inside(n, "(", "7", ""), Expr, endUnless(n == 0, n+2))
	}
	for n := deepest + 1; n < 12; n++ {
		checkFault(t, "too many parentheses", inside(n, "(", "7", ")"), Expr, at(api.ErrDepth, 1, 9))
		checkFault(t, "too many parentheses behind others", "(1)+"+inside(n, "(", "7", ")"), Expr, at(api.ErrDepth, 1, 13))
		checkFault(t, "too many parentheses with nothing in them", inside(n, "(", "", ")"), Expr, at(api.ErrDepth, 1, 9))
	}
	checkFault(t, "a fault before too many parentheses", "((((((((+(1", Expr, at(api.ErrToken, 1, 9))
	checkFault(t, "8 parentheses around nothing", inside(8, "(", "", ")"), Expr, at(api.ErrToken, 1, 9))
	checkFault(t, "another parenthesis behind 8", inside(8, "(", "7(", ")"), Expr, at(api.ErrToken, 1, 10))
	checkFault(t, "a ninth parenthesis behind an operand", inside(8, "(", "7*(8)", ")"), Expr, at(api.ErrDepth, 1, 11))
	checkFault(t, "a ninth parenthesis, on another line", inside(8, "(", "7*\n (8)", ")"), Expr, at(api.ErrDepth, 2, 2))
	checkTree(t, "parentheses of a sel inside 8", inside(8, "(", "count (mine here all)", ")"), Expr, count(some(api.Mine, api.Here, api.All)))
	checkTree(t, "parentheses inside 7 behind those of a sel", inside(7, "(", "sum (mine here all)*(2)", ")"), Expr,
		times(sum(some(api.Mine, api.Here, api.All)), num(2)))
}

// endUnless returns no fault if ok, and otherwise the fault of an end at that column.
func endUnless(ok bool, col int) api.Fault {
	if ok {
		return api.Fault{}
	}
	return at(api.ErrEnd, 1, col)
}

func TestDepthOfBlocks(t *testing.T) {
	for _, o := range opens {
		for n := range deepest {
			s := inside(n, o.begin, "destroy me;", o.end)
			checkFault(t, "blocks", s, Acts, api.Fault{})
			checkFault(t, "blocks behind blocks", s+s, Acts, api.Fault{})
			checkFault(t, "blocks in a rule", "card \"A\" cost 1 power 1 { reveal {"+s+"} end {"+s+"} }", Parse, api.Fault{})
			checkFault(t, "blocks in a location", "place \"A\" { end {"+s+s+"} }", Parse, api.Fault{})
		}
	}
	for _, begin := range []string{"if 1=1{", "each me{", "each me {", "if 1=1{}else{"} {
		size := len(begin)
		checkFault(t, "8 blocks", inside(8, begin, "shield me;", "}"), Acts, api.Fault{})
		for n := deepest + 1; n < 12; n++ {
			s := inside(n, begin, "", "}")
			want := at(api.ErrDepth, 1, 9*size)
			if strings.Contains(begin, "else") {
				want.Col = 8*size + len("if 1=1{")
			}
			checkFault(t, "too many blocks", s, Acts, want)
			checkFault(t, "too many blocks without an end", strings.TrimRight(s, "}"), Acts, want)
			want.Line++
			checkFault(t, "too many blocks behind acts", "destroy me; each me { }\n"+s, Acts, want)
			want.Line++
			checkFault(t, "too many blocks in a rule", "card \"A\" cost 1 power 1 { reveal { destroy me; } }\nplace \"A\" { end {\n"+s+"} }", Parse, want)
		}
	}
}

// The block of else is inside as many others as the one before it.
func TestDepthOfElse(t *testing.T) {
	for n := range deepest {
		s := inside(n, "each me{", "if 1=1{destroy me;}else{destroy me;}", "}")
		checkFault(t, "else", s, Acts, api.Fault{})
	}
	checkFault(t, "else inside 8", inside(7, "each me{", "if 1=1{}else{if 1=1{}}", "}"), Acts, at(api.ErrDepth, 1, 56+20))
	checkFault(t, "else of a ninth block", inside(8, "each me{", "if 1=1{}else{}", "}"), Acts, at(api.ErrDepth, 1, 64+7))
}

// Blocks and parentheses are counted together.
func TestDepthOfBlocksAndParentheses(t *testing.T) {
	for blocks := range deepest + 1 {
		begin := strings.Repeat("each me{", blocks)
		end := strings.Repeat("}", blocks)
		room := deepest - blocks
		fits, tooMany := inside(room, "(", "1", ")"), inside(room+1, "(", "1", ")")
		for _, c := range []struct{ what, before, after string }{
			{"power", "power me ", ";"}, {"draw", "draw mine ", ";"}, {"spawn", "spawn \"A\" mine here ", ";"},
			{"a left side", "if ", "=1{}"}, {"a right side", "if 1=", "{}"},
			{"a right operand", "set me 2-", "*3;"}, {"parentheses behind others", "set me " + fits + "+", ";"},
			{"parentheses behind a block", "each me{}power me ", ";"}, {"parentheses behind a sel", "aura (mine here all)", ";"},
		} {
			want := at(api.ErrDepth, 1, len(begin+c.before)+room+1)
			ok := api.Fault{}
			if room == 0 && strings.Contains(c.before+c.after, "{}") {
				// A block does not fit any more either.
				ok = at(api.ErrDepth, 1, len(begin)+strings.Index(c.before+fits+c.after, "{")+1)
				if strings.HasPrefix(c.before, "each") {
					want = ok
				}
			}
			checkFault(t, c.what, begin+c.before+fits+c.after+end, Acts, ok)
			checkFault(t, c.what, begin+c.before+tooMany+c.after+end, Acts, want)
		}
	}
}

// The depth is back behind a block or parentheses that have ended.
func TestDepthIsBack(t *testing.T) {
	for _, o := range opens {
		for n := 1; n < deepest-2; n++ {
			once := inside(n, o.begin, "", o.end)
			s := strings.Repeat(once, 20) + inside(8, "each me{", "destroy me;", "}")
			checkFault(t, "8 blocks behind others", s, Acts, api.Fault{})
			s = strings.Repeat(once, 20) + inside(9, "each me{", "destroy me;", "}")
			checkFault(t, "9 blocks behind others", s, Acts, at(api.ErrDepth, 1, 20*len(once)+72))
		}
	}
	sum := strings.Repeat(inside(8, "(", "1", ")")+"+", 100)
	checkFault(t, "8 parentheses behind others", sum+inside(8, "(", "1", ")"), Expr, api.Fault{})
	checkFault(t, "9 parentheses behind others", sum+inside(9, "(", "1", ")"), Expr, at(api.ErrDepth, 1, len(sum)+9))
	rule := "reveal {" + inside(8, "each me{", "destroy me;", "}") + "}"
	card := "card \"A\" cost 1 power 1 {" + rule + rule + "} place \"B\" {" + rule + rule + "}"
	checkFault(t, "8 blocks in each rule", card+card, Parse, api.Fault{})
	checkFault(t, "7 parentheses in conds of blocks", inside(8, "if (((((((1)))))))=1{", "", "}"), Acts, at(api.ErrDepth, 1, 21+21+10))
	checkFault(t, "8 blocks behind parentheses in conds", inside(8, "if round=1{", "destroy me;", "}")+"if ((((((((1))))))))=1{"+inside(7, "each me{", "", "}")+"}", Acts, api.Fault{})
	checkFault(t, "9 blocks behind parentheses in a cond", "if ((((((((1))))))))=1{"+inside(8, "each me{", "", "}")+"}", Acts, at(api.ErrDepth, 1, 23+64))
}

// At the ninth block only its brace is too deep: what should not stand there is as wrong
// as anywhere.
func TestFaultsInsideEight(t *testing.T) {
	begin := strings.Repeat("each me{", 8)
	for _, w := range []wrong{
		{"no cond", "if {", at(api.ErrToken, 1, 4)},
		{"no block behind a cond", "if 1=1;", at(api.ErrToken, 1, 7)},
		{"a cond at the end", "if 1=1", at(api.ErrEnd, 1, 7)},
		{"a parenthesis for a block", "if 1=1(", at(api.ErrToken, 1, 7)},
		{"a parenthesis for a block of each", "each me(", at(api.ErrToken, 1, 8)},
		{"a brace for a parenthesis", "power me {", at(api.ErrToken, 1, 10)},
		{"a brace for an act", "{", at(api.ErrToken, 1, 1)},
		{"no sel", "each {", at(api.ErrToken, 1, 6)},
		{"a block", "each me{", at(api.ErrDepth, 1, 8)},
		{"a block of a whole act", "if 1=1 { } else { }", at(api.ErrDepth, 1, 8)},
		{"a parenthesis", "power me (", at(api.ErrDepth, 1, 10)},
		{"a parenthesis behind a number", "power me 1 (", at(api.ErrToken, 1, 12)},
		{"a parenthesis in a cond", "if (1)=1{", at(api.ErrDepth, 1, 4)},
		{"a parenthesis of a sel that is none", "destroy (1", at(api.ErrToken, 1, 10)},
		{"a fault before a block", "draw; each me{", at(api.ErrToken, 1, 5)},
		{"a block before a fault", "each me{ draw; }", at(api.ErrDepth, 1, 8)},
	} {
		want := w.fault
		want.Line++
		checkFault(t, w.what, begin+"\n"+w.s, Acts, want)
		checkFault(t, w.what, begin+"destroy me;\n"+w.s, Acts, want)
		want.Line++
		checkFault(t, w.what, "place \"A\" { reveal {\n"+begin+"\n"+w.s, Parse, want)
	}
}

// P11.3: blanks and comments between tokens change only positions.

// gaps are blanks and comments that may stand between any two tokens.
var gaps = []string{" ", "\n", "\t", "  \n\n\t", "#\n", " # so\n", "# { } \"é€ 100 !\n# (\n ", " #\r\xff\n"}

// place is a line and a column.
type place struct{ line, col int }

// spaced returns the tokens of a text that has them, each between gaps, and where the
// token that stood at each place stands now.
func spaced(s, gap string) (string, func(line, col int) (int, int)) {
	before, _ := tokens.Scan(s)
	text := gap
	for _, tok := range before {
		if tok.Kind == api.TName {
			tok.Text = "\"" + tok.Text + "\""
		}
		text += tok.Text
		if tok.Kind != api.TEnd {
			text += gap
		}
	}
	after, _ := tokens.Scan(text)
	places := map[place]place{{0, 0}: {0, 0}}
	for i, tok := range before {
		places[place{tok.Line, tok.Col}] = place{after[i].Line, after[i].Col}
	}
	return text, func(line, col int) (int, int) {
		to, ok := places[place{line, col}]
		if !ok {
			return -1, -1
		}
		return to.line, to.col
	}
}

// movedRules returns rules with their positions changed.
func movedRules(rules []api.Rule, change func(line, col int) (int, int)) []api.Rule {
	var list []api.Rule
	for _, rule := range rules {
		rule.Line, rule.Col = change(rule.Line, rule.Col)
		rule.Acts = moved(rule.Acts, change)
		list = append(list, rule)
	}
	return list
}

// movedFile returns a file with its positions changed.
func movedFile(file api.File, change func(line, col int) (int, int)) api.File {
	var to api.File
	for _, card := range file.Cards {
		card.Line, card.Col = change(card.Line, card.Col)
		card.Rules = movedRules(card.Rules, change)
		to.Cards = append(to.Cards, card)
	}
	for _, place := range file.Places {
		place.Line, place.Col = change(place.Line, place.Col)
		place.Rules = movedRules(place.Rules, change)
		to.Places = append(to.Places, place)
	}
	return to
}

func TestBlanksChangePositionsOnly(t *testing.T) {
	for _, gap := range gaps {
		for _, c := range exprs {
			s, _ := spaced(c.s, gap)
			checkTree(t, c.what+", spaced", s, Expr, c.want)
		}
		for _, c := range blocks {
			s, change := spaced(c.s, gap)
			checkTree(t, c.what+", spaced", s, Acts, moved(c.want, change))
		}
		for _, c := range files {
			s, change := spaced(c.s, gap)
			checkTree(t, c.what+", spaced", s, Parse, movedFile(c.want, change))
		}
	}
}

func TestBlanksChangePositionsOfFaultsOnly(t *testing.T) {
	for _, gap := range gaps {
		for _, w := range wrongExprs {
			checkSpacedFault(t, w, gap, Expr)
		}
		for _, w := range wrongActs {
			if w.fault.E != api.ErrChar {
				checkSpacedFault(t, w, gap, Acts)
			}
		}
		for _, w := range wrongFiles {
			checkSpacedFault(t, w, gap, Parse)
		}
		for n := 9; n < 12; n++ {
			checkSpacedFault(t, wrong{"too deep", inside(n, "(", "1", ")"), at(api.ErrDepth, 1, 9)}, gap, Expr)
			checkSpacedFault(t, wrong{"too deep", inside(n, "each me{", "", "}"), at(api.ErrDepth, 1, 72)}, gap, Acts)
		}
	}
}

// checkSpacedFault checks the fault of a text whose tokens stand between gaps.
func checkSpacedFault[T any](t *testing.T, w wrong, gap string, parse func(string) (T, api.Fault)) {
	t.Helper()
	s, change := spaced(w.s, gap)
	want := w.fault
	want.Line, want.Col = change(want.Line, want.Col)
	checkFault(t, w.what+", spaced", s, parse, want)
}

// P11.3: what is parsed before a fault has no influence on the fault.

func TestFaultsBehindWholeTexts(t *testing.T) {
	for _, before := range exprs {
		for _, sign := range []string{"+", "-", "*"} {
			for _, w := range wrongExprs {
				checkFaultBehind(t, before.s+sign, w, Expr)
			}
		}
	}
	for _, before := range blocks {
		for _, w := range wrongActs {
			// An else may stand behind an if.
			if !strings.HasPrefix(w.s, "else") {
				checkFaultBehind(t, before.s, w, Acts)
			}
		}
	}
	for _, before := range files {
		for _, w := range wrongFiles {
			checkFaultBehind(t, before.s, w, Parse)
		}
	}
}

// checkFaultBehind checks the fault of a text that stands behind another one, on lines
// of its own.
func checkFaultBehind[T any](t *testing.T, before string, w wrong, parse func(string) (T, api.Fault)) {
	t.Helper()
	want := w.fault
	want.Line += strings.Count(before, "\n") + 1
	checkFault(t, w.what+", behind "+before, before+"\n"+w.s, parse, want)
}

func TestFaultsOfActsInRules(t *testing.T) {
	for _, w := range wrongActs {
		if strings.HasPrefix(w.s, "}") || strings.HasSuffix(w.s, "; }") && w.fault.Col == len(w.s) {
			continue // There the rule ends.
		}
		checkFaultBehind(t, "card \"A\" cost 1 power 1 { death { destroy me; } reveal {", w, Parse)
		checkFaultBehind(t, "place \"A\" { } place \"B\" { always 1 { aura me 1;", w, Parse)
	}
}

// R3 and R4: memory, and what does not depend on earlier calls.

// scratch overwrites what stands behind the end of each list of acts and in each of
// their slices' room.
func scratch(acts []api.Act) {
	_ = append(acts, api.Act{Kind: 99, Name: "scratched"})
	for _, act := range acts {
		scratchSel(act.Sel)
		scratchExpr(act.Num)
		scratchExpr(act.Cond.L)
		scratchExpr(act.Cond.R)
		scratch(act.Then)
		scratch(act.Else)
	}
}

func scratchSel(sel api.Sel) {
	_ = append(sel.Filters, api.Filter{Kind: 99})
}

func scratchExpr(e api.Expr) {
	_ = append(e.Kids, num(99))
	scratchSel(e.Sel)
	for _, kid := range e.Kids {
		scratchExpr(kid)
	}
}

func scratchFile(file api.File) {
	_ = append(file.Cards, api.Card{Name: "scratched"})
	_ = append(file.Places, api.Place{Name: "scratched"})
	var rules [][]api.Rule
	for _, card := range file.Cards {
		rules = append(rules, card.Rules)
	}
	for _, place := range file.Places {
		rules = append(rules, place.Rules)
	}
	for _, list := range rules {
		_ = append(list, api.Rule{When: 99})
		for _, rule := range list {
			scratch(rule.Acts)
		}
	}
}

func TestListsShareNoMemory(t *testing.T) {
	text := "place \"P\" { }"
	for _, c := range blocks {
		s := "reveal { " + c.s + "\n} "
		text += "card \"A\" cost 1 power 1 { " + s + s + "} place \"B\" { " + s + "}"
	}
	for sel := range sels() {
		text += "place \"C\" { end { destroy " + sel + "; power " + sel + " count " + sel + " - (sum " + sel + " - 1) * 2; } }"
		if len(text) > longest/2 {
			break
		}
	}
	first, fault := Parse(text)
	if fault != (api.Fault{}) {
		t.Fatalf("the text has the fault %v", fault)
	}
	before := shown(first)
	scratchFile(first)
	if shown(first) != before {
		t.Error("lists of one result share memory")
	}
	for i := range first.Cards {
		first.Cards[i] = api.Card{}
	}
	for i := range first.Places {
		clear(first.Places[i].Rules)
	}
	again, _ := Parse(text)
	if shown(again) != before {
		t.Error("a result depends on an earlier one")
	}
}

func TestFaultsLeaveNothingBehind(t *testing.T) {
	for _, w := range wrongFiles {
		Parse(w.s)
		Acts(w.s)
		Expr(w.s)
		checkTree(t, "after "+w.what, files[len(files)-1].s, Parse, files[len(files)-1].want)
		checkTree(t, "after "+w.what, inside(8, "(", "7", ")"), Expr, num(7))
	}
	for range 3 {
		checkFault(t, "the same fault again", inside(9, "(", "7", ")"), Expr, at(api.ErrDepth, 1, 9))
	}
	if got := fmt.Sprint(Expr("")); got != fmt.Sprint(api.Expr{}, at(api.ErrEnd, 1, 1)) {
		t.Errorf("the empty text is %s", got)
	}
}
