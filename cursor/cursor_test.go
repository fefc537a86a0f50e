package cursor

import (
	"math/rand"
	"slices"
	"strconv"
	"strings"
	"testing"

	"trident/api"
	"trident/tokens"
)

// longest is the number of bytes of the longest text.
const longest = 65536

// deepest is the greatest depth.
const deepest = 8

// at returns the fault e at that position.
func at(e api.Errno, line, col int) api.Fault {
	return api.Fault{E: e, Line: line, Col: col}
}

// newCursor returns the cursor of a text that has no fault.
func newCursor(t *testing.T, s string) *Cursor {
	t.Helper()
	c, fault := New(s)
	if c == nil || fault != (api.Fault{}) {
		t.Fatalf("New(%.60q) is %v, with the fault %v", s, c, fault)
	}
	return c
}

// checkAt checks at which token a cursor stands, without advancing it.
func checkAt(t *testing.T, what string, c *Cursor, want api.Tok) {
	t.Helper()
	for range 2 {
		if got := c.Peek(); got != want {
			t.Errorf("%s: Peek is %+v, want %+v", what, got, want)
		}
	}
}

// checkDepth checks the depth of a cursor.
func checkDepth(t *testing.T, what string, c *Cursor, want int) {
	t.Helper()
	for range 2 {
		if got := c.Depth(); got != want {
			t.Errorf("%s: Depth is %d, want %d", what, got, want)
		}
	}
}

// checkFault checks a fault that a request returned.
func checkFault(t *testing.T, what string, got, want api.Fault) {
	t.Helper()
	if got != want {
		t.Errorf("%s: the fault is %v, want %v", what, got, want)
	}
}

// card is a text with tokens of all kinds, on several lines, and with runes of
// several bytes.
const card = "card \"Éé\" cost 3 power -4 { # €\n\treveal { destroy (theirs here power <= 2 first); }\n}\n"

// ofCard are the tokens of card.
var ofCard = []api.Tok{
	{Kind: 1, Text: "card", Line: 1, Col: 1}, {Kind: 3, Text: "Éé", Line: 1, Col: 6},
	{Kind: 1, Text: "cost", Line: 1, Col: 11}, {Kind: 2, Text: "3", N: 3, Line: 1, Col: 16},
	{Kind: 1, Text: "power", Line: 1, Col: 18}, {Kind: 4, Text: "-", Line: 1, Col: 24}, {Kind: 2, Text: "4", N: 4, Line: 1, Col: 25},
	{Kind: 4, Text: "{", Line: 1, Col: 27}, {Kind: 1, Text: "reveal", Line: 2, Col: 2}, {Kind: 4, Text: "{", Line: 2, Col: 9},
	{Kind: 1, Text: "destroy", Line: 2, Col: 11}, {Kind: 4, Text: "(", Line: 2, Col: 19}, {Kind: 1, Text: "theirs", Line: 2, Col: 20},
	{Kind: 1, Text: "here", Line: 2, Col: 27}, {Kind: 1, Text: "power", Line: 2, Col: 32}, {Kind: 4, Text: "<=", Line: 2, Col: 38},
	{Kind: 2, Text: "2", N: 2, Line: 2, Col: 41}, {Kind: 1, Text: "first", Line: 2, Col: 43}, {Kind: 4, Text: ")", Line: 2, Col: 48},
	{Kind: 4, Text: ";", Line: 2, Col: 49}, {Kind: 4, Text: "}", Line: 2, Col: 51}, {Kind: 4, Text: "}", Line: 3, Col: 1},
	{Kind: 0, Line: 4, Col: 1},
}

// texts are texts without a fault.
var texts = []string{
	"", " ", "\n\n", "# so", "a", "lane", "7", "99", "\"A\"", "\"lane\"", "\"7\"", "\"-\"", "-", ";", "<=", "!=",
	"- 3", "-3", "-\n3", "- # so\n 3", "- - 3", "-", "- x", "- \"3\"", "3 -", "3 - 4", "-0", "+3", "a b c", "{{{{}}}}",
	"lane 2; # so", "power me -2;", "if (1 + 2) * - 3 != count me { } else { }", card,
}

// faulty are texts with a fault.
var faulty = []struct {
	what, s string
	fault   api.Fault
}{
	{"a number of 3 digits", "100", at(12, 1, 1)},
	{"a leading zero", "lane 02;", at(12, 1, 6)},
	{"a negative number of 3 digits", "a\n -100", at(12, 2, 3)},
	{"a quote alone", "\"", at(10, 1, 1)},
	{"a name that is none", "card \" A\" cost 3", at(10, 1, 6)},
	{"a rune that begins nothing", "a !", at(6, 1, 3)},
	{"a letter of two bytes", "é", at(6, 1, 1)},
	{"a byte that is no rune", "# €\n\xff", at(6, 2, 1)},
	{"a fault behind a card", card + "\n  $", at(6, 5, 3)},
	{"the first of two faults", "a , 100", at(6, 1, 3)},
	{"too long a text", strings.Repeat(" ", longest+1), at(3, 1, 1)},
	{"too long a text with a fault", "!" + strings.Repeat(";", longest), at(3, 1, 1)},
}

// P10.1: New, Peek and Next.

func TestNew(t *testing.T) {
	for _, s := range texts {
		list, _ := tokens.Scan(s)
		c := newCursor(t, s)
		checkAt(t, "a new cursor of "+s, c, list[0])
		checkDepth(t, "a new cursor of "+s, c, 0)
	}
}

func TestNewOfFaults(t *testing.T) {
	for _, f := range faulty {
		for range 2 {
			c, fault := New(f.s)
			if c != nil {
				t.Errorf("%s: New(%.60q) is a cursor at %+v, want nil", f.what, f.s, c.Peek())
			}
			checkFault(t, f.what, fault, f.fault)
		}
		_, ofScan := tokens.Scan(f.s)
		checkFault(t, f.what+", scanned", ofScan, f.fault)
	}
}

func TestNextOfACard(t *testing.T) {
	c := newCursor(t, card)
	for i, want := range ofCard {
		what := "token " + strconv.Itoa(i)
		checkAt(t, what, c, want)
		if got := c.Next(); got != want {
			t.Errorf("%s: Next is %+v, want %+v", what, got, want)
		}
	}
}

// walk returns the n tokens that Next returns.
func walk(c *Cursor, n int) []api.Tok {
	var list []api.Tok
	for range n {
		list = append(list, c.Next())
	}
	return list
}

func TestNextOfTexts(t *testing.T) {
	for _, s := range texts {
		list, _ := tokens.Scan(s)
		if got := walk(newCursor(t, s), len(list)); !slices.Equal(got, list) {
			t.Errorf("Next of %q returns %+v, want %+v", s, got, list)
		}
	}
}

func TestNextStaysAtTheEnd(t *testing.T) {
	for _, s := range texts {
		list, _ := tokens.Scan(s)
		end := list[len(list)-1]
		c := newCursor(t, s)
		walk(c, len(list)-1)
		checkAt(t, "at the end of "+s, c, end)
		for range 5 {
			if got := c.Next(); got != end {
				t.Errorf("at the end of %q Next is %+v, want %+v", s, got, end)
			}
			checkAt(t, "behind the end of "+s, c, end)
		}
	}
}

func TestTheLongestText(t *testing.T) {
	marks := newCursor(t, strings.Repeat("-", longest))
	for i := range longest {
		if got := marks.Peek(); got != (api.Tok{Kind: 4, Text: "-", Line: 1, Col: 1 + i}) {
			t.Fatalf("token %d is %+v", i, got)
		}
		n, fault := marks.Signed()
		want := at(7, 1, i+2)
		if i == longest-1 {
			want.E = 2
		}
		if n != 0 || fault != want {
			t.Fatalf("Signed at token %d is %d, %v, want the fault %v", i, n, fault, want)
		}
		if !marks.Take("-") {
			t.Fatalf("Take at token %d is false", i)
		}
	}
	checkAt(t, "the end of many marks", marks, api.Tok{Line: 1, Col: longest + 1})

	word := newCursor(t, strings.Repeat("x", longest))
	if word.Take(strings.Repeat("x", longest-1)) || !word.Take(strings.Repeat("x", longest)) {
		t.Error("a long word is not taken by its text alone")
	}
}

// P10.1: Is, Take and Want.

// asked are texts that begin with a token, what is asked of that, and whether it is
// the token. The fault is that of Want if it is not.
var asked = []struct {
	what, s, text string
	is            bool
	wrong         api.Fault
}{
	{"a word", "lane", "lane", true, api.Fault{}},
	{"a word of one letter", "a b", "a", true, api.Fault{}},
	{"a word behind a comment", "# so\n\tme", "me", true, api.Fault{}},
	{"another word", "lane", "here", false, at(7, 1, 1)},
	{"the beginning of a word", "lanes", "lane", false, at(7, 1, 1)},
	{"a word that goes on", "lane", "lanes", false, at(7, 1, 1)},
	{"a word in capitals", "lane", "LANE", false, at(7, 1, 1)},
	{"a word with a blank behind it", "lane ", "lane ", false, at(7, 1, 1)},
	{"a word in quotes, asked of a word", "lane", "\"lane\"", false, at(7, 1, 1)},
	{"nothing, asked of a word", " lane", "", false, at(7, 1, 2)},
	{"the word behind a word", "lane here", "here", false, at(7, 1, 1)},
	{"both words", "lane here", "lane here", false, at(7, 1, 1)},
	{"the word behind a mark", "- a", "a", false, at(7, 1, 1)},

	{"a mark", "-", "-", true, api.Fault{}},
	{"a mark of two bytes", "<=", "<=", true, api.Fault{}},
	{"a mark before a number", "-3", "-", true, api.Fault{}},
	{"a mark before the same mark", "((", "(", true, api.Fault{}},
	{"another mark", ";", "{", false, at(7, 1, 1)},
	{"the beginning of a mark", "<=", "<", false, at(7, 1, 1)},
	{"the end of a mark", "!=", "=", false, at(7, 1, 1)},
	{"a mark that goes on", "\n>", ">=", false, at(7, 2, 1)},
	{"two marks", "< =", "<=", false, at(7, 1, 1)},
	{"nothing, asked of a mark", "-", "", false, at(7, 1, 1)},
	{"a word, asked of a mark", "-", "lane", false, at(7, 1, 1)},
	{"a mark, asked of a word", "lane", "-", false, at(7, 1, 1)},

	{"a name with the text of a word", "\"lane\"", "lane", false, at(7, 1, 1)},
	{"a name with the text of a mark", " \"-\" 3", "-", false, at(7, 1, 2)},
	{"a name with the text of a number", "\"7\"", "7", false, at(7, 1, 1)},
	{"a name that is asked with its quotes", "\"lane\"", "\"lane\"", false, at(7, 1, 1)},
	{"nothing, asked of a name", "\"lane\"", "", false, at(7, 1, 1)},
	{"a quote, asked of a name", "\"lane\"", "\"", false, at(7, 1, 1)},

	{"a number with that text", "7", "7", false, at(7, 1, 1)},
	{"a number of two digits with that text", "\n\n  42", "42", false, at(7, 3, 3)},
	{"a number and its sign", "-3", "-3", false, at(7, 1, 1)},
	{"nothing, asked of a number", "0", "", false, at(7, 1, 1)},

	{"nothing, asked of the end", "", "", false, at(2, 1, 1)},
	{"a word, asked of the end", " # lane", "lane", false, at(2, 1, 8)},
	{"a mark, asked of the end", "\n\n ", "}", false, at(2, 3, 2)},
	{"bytes that are no rune", "lane", "\xff\x00", false, at(7, 1, 1)},
}

func TestIs(t *testing.T) {
	for _, a := range asked {
		c := newCursor(t, a.s)
		before := c.Peek()
		for range 2 {
			if got := c.Is(a.text); got != a.is {
				t.Errorf("%s: Is(%q) at %+v is %v, want %v", a.what, a.text, before, got, a.is)
			}
			checkAt(t, a.what+", after Is", c, before)
		}
	}
}

// after returns the token of s at which a cursor stands that advanced, or did not.
func after(s string, advanced bool) api.Tok {
	list, _ := tokens.Scan(s)
	if advanced {
		return list[1]
	}
	return list[0]
}

func TestTake(t *testing.T) {
	for _, a := range asked {
		c := newCursor(t, a.s)
		if got := c.Take(a.text); got != a.is {
			t.Errorf("%s: Take(%q) of %q is %v, want %v", a.what, a.text, a.s, got, a.is)
		}
		checkAt(t, a.what+", after Take", c, after(a.s, a.is))
		checkDepth(t, a.what+", after Take", c, 0)
	}
}

func TestWant(t *testing.T) {
	for _, a := range asked {
		c := newCursor(t, a.s)
		checkFault(t, a.what+", wanted", c.Want(a.text), a.wrong)
		checkAt(t, a.what+", after Want", c, after(a.s, a.is))
		checkDepth(t, a.what+", after Want", c, 0)
	}
}

func TestIsOfEveryToken(t *testing.T) {
	for i, tok := range ofCard {
		for _, other := range ofCard {
			c := newCursor(t, card)
			walk(c, i)
			want := (tok.Kind == 1 || tok.Kind == 4) && tok.Text == other.Text
			if got := c.Is(other.Text); got != want {
				t.Errorf("at %+v Is(%q) is %v", tok, other.Text, got)
			}
			wantTok, wantFault := tok, at(7, tok.Line, tok.Col)
			if want {
				wantTok, wantFault = ofCard[i+1], api.Fault{}
			} else if tok.Kind == 0 {
				wantFault.E = 2
			}
			checkFault(t, other.Text+", wanted of a card", c.Want(other.Text), wantFault)
			checkAt(t, other.Text+", wanted of a card", c, wantTok)
		}
	}
}

// P10.1: Wrong.

func TestWrong(t *testing.T) {
	for _, s := range texts {
		list, _ := tokens.Scan(s)
		c := newCursor(t, s)
		for i, tok := range list {
			want := at(api.ErrToken, tok.Line, tok.Col)
			if i == len(list)-1 {
				want.E = api.ErrEnd
			}
			for range 2 {
				checkFault(t, "Wrong in "+s, c.Wrong(), want)
			}
			checkAt(t, "after Wrong in "+s, c, tok)
			c.Next()
		}
	}
}

func TestWrongAtTheEnd(t *testing.T) {
	for _, w := range []struct {
		what, s string
		steps   int
		want    api.Fault
	}{
		{"the empty text", "", 0, at(2, 1, 1)},
		{"before the end", "a", 0, at(7, 1, 1)},
		{"behind a word", "a", 1, at(2, 1, 2)},
		{"behind the end", "a", 9, at(2, 1, 2)},
		{"behind a comment", "a # é\n ", 1, at(2, 2, 2)},
		{"a mark on the second line", "a\n ;", 1, at(7, 2, 2)},
		{"behind runes of several bytes", "\"Éé\" 1", 1, at(7, 1, 6)},
	} {
		c := newCursor(t, w.s)
		walk(c, w.steps)
		checkFault(t, w.what, c.Wrong(), w.want)
	}
}

// P10.2: Int, Signed and Name.

// numbers are texts, the numbers that Int and Signed return of them, their faults,
// and how many tokens Signed goes past.
var numbers = []struct {
	what, s     string
	n           int
	fault       api.Fault
	signed      int
	signedFault api.Fault
	past        int
}{
	{"a number", "3", 3, api.Fault{}, 3, api.Fault{}, 1},
	{"0", "0", 0, api.Fault{}, 0, api.Fault{}, 1},
	{"9", " 9;", 9, api.Fault{}, 9, api.Fault{}, 1},
	{"10", "10 20", 10, api.Fault{}, 10, api.Fault{}, 1},
	{"99", "# so\n99", 99, api.Fault{}, 99, api.Fault{}, 1},
	{"a number before a mark -", "3 - 4", 3, api.Fault{}, 3, api.Fault{}, 1},
	{"a number next to a word", "3a", 3, api.Fault{}, 3, api.Fault{}, 1},

	{"the chapter's example", "- 3", 0, at(7, 1, 1), -3, api.Fault{}, 2},
	{"a mark - next to a number", "-3", 0, at(7, 1, 1), -3, api.Fault{}, 2},
	{"-0", "-0", 0, at(7, 1, 1), 0, api.Fault{}, 2},
	{"-1", "-1", 0, at(7, 1, 1), -1, api.Fault{}, 2},
	{"-99", "-99", 0, at(7, 1, 1), -99, api.Fault{}, 2},
	{"a mark - before a number that is not the last token", " -42 - 7", 0, at(7, 1, 2), -42, api.Fault{}, 2},
	{"a mark - and a number on another line", "-\n# so\n\t8", 0, at(7, 1, 1), -8, api.Fault{}, 2},

	{"a mark - before a word", "- x 3", 0, at(7, 1, 1), 0, at(7, 1, 3), 0},
	{"a mark - before a name", "-\"3\"", 0, at(7, 1, 1), 0, at(7, 1, 2), 0},
	{"a mark - before a mark -", "- - 3", 0, at(7, 1, 1), 0, at(7, 1, 3), 0},
	{"a mark - before another mark", "-\n ;", 0, at(7, 1, 1), 0, at(7, 2, 2), 0},
	{"a mark - before a parenthesis", "-(3)", 0, at(7, 1, 1), 0, at(7, 1, 2), 0},
	{"a mark - at the end", "-", 0, at(7, 1, 1), 0, at(2, 1, 2), 0},
	{"a mark - before a comment at the end", "\n- # 3\n", 0, at(7, 2, 1), 0, at(2, 3, 1), 0},

	{"the end", "", 0, at(2, 1, 1), 0, at(2, 1, 1), 0},
	{"the end behind a comment", "# 3\n ", 0, at(2, 2, 2), 0, at(2, 2, 2), 0},
	{"a word", " lane 2", 0, at(7, 1, 2), 0, at(7, 1, 2), 0},
	{"a name of digits", "\"3\"", 0, at(7, 1, 1), 0, at(7, 1, 1), 0},
	{"a name that is a sign", "\"-\" 3", 0, at(7, 1, 1), 0, at(7, 1, 1), 0},
	{"a mark + before a number", "+3", 0, at(7, 1, 1), 0, at(7, 1, 1), 0},
	{"a mark before a number", "\n <= 3", 0, at(7, 2, 2), 0, at(7, 2, 2), 0},
	{"a mark before a negative number", "; -3", 0, at(7, 1, 1), 0, at(7, 1, 1), 0},
}

func TestInt(t *testing.T) {
	for _, c := range numbers {
		checkNumber(t, c.what+", Int", c.s, (*Cursor).Int, c.n, c.fault, c.fault == api.Fault{})
	}
}

// checkNumber checks a request that goes past one token if it advances.
func checkNumber(t *testing.T, what, s string, request func(*Cursor) (int, api.Fault), want int, fault api.Fault, advances bool) {
	t.Helper()
	c := newCursor(t, s)
	got, gotFault := request(c)
	if got != want {
		t.Errorf("%s of %q is %d, want %d", what, s, got, want)
	}
	checkFault(t, what, gotFault, fault)
	checkAt(t, what, c, after(s, advances))
}

func TestSigned(t *testing.T) {
	for _, n := range numbers {
		list, _ := tokens.Scan(n.s)
		c := newCursor(t, n.s)
		got, fault := c.Signed()
		if got != n.signed {
			t.Errorf("%s: Signed of %q is %d, want %d", n.what, n.s, got, n.signed)
		}
		checkFault(t, n.what+", Signed", fault, n.signedFault)
		checkAt(t, n.what+", after Signed", c, list[n.past])
		if got := walk(c, len(list)-n.past); !slices.Equal(got, list[n.past:]) {
			t.Errorf("%s: behind Signed of %q are the tokens %+v, want %+v", n.what, n.s, got, list[n.past:])
		}
	}
}

func TestNumbersAgain(t *testing.T) {
	for _, n := range numbers {
		if n.past > 0 {
			continue
		}
		c := newCursor(t, n.s)
		for range 3 {
			got, fault := c.Signed()
			if got != 0 {
				t.Errorf("%s: Signed again is %d", n.what, got)
			}
			checkFault(t, n.what+", Signed again", fault, n.signedFault)
			got, fault = c.Int()
			if got != 0 {
				t.Errorf("%s: Int again is %d", n.what, got)
			}
			checkFault(t, n.what+", Int again", fault, n.fault)
		}
	}
}

func TestEveryNumber(t *testing.T) {
	for n := range 100 {
		s := strconv.Itoa(n)
		checkNumber(t, "Int of every number", s+" a", (*Cursor).Int, n, api.Fault{}, true)
		checkNumber(t, "Signed of every number", s+" a", (*Cursor).Signed, n, api.Fault{}, true)
		c := newCursor(t, "-"+s+" a")
		if got, fault := c.Signed(); got != -n || fault != (api.Fault{}) {
			t.Errorf("Signed of -%d is %d, with the fault %v", n, got, fault)
		}
		if !c.Is("a") {
			t.Errorf("behind Signed of -%d stands %+v", n, c.Peek())
		}
	}
}

func TestSignedInARow(t *testing.T) {
	c := newCursor(t, "1 -2 3 - 4 -5")
	for _, want := range []int{1, -2, 3, -4, -5} {
		if got, fault := c.Signed(); got != want || fault != (api.Fault{}) {
			t.Errorf("Signed is %d, with the fault %v, want %d", got, fault, want)
		}
	}
	checkAt(t, "behind the numbers", c, api.Tok{Line: 1, Col: 14})
}

func TestSignedKeepsTheDepth(t *testing.T) {
	for _, n := range numbers {
		c := newCursor(t, n.s)
		for depth := 1; depth <= deepest; depth++ {
			c.Down()
			c.Signed()
			checkDepth(t, n.what+", after Signed", c, depth)
		}
	}
}

func TestName(t *testing.T) {
	for _, n := range []struct {
		what, s, name string
		fault         api.Fault
	}{
		{"a name", "\"Wild Hunt\"", "Wild Hunt", api.Fault{}},
		{"a name of one letter", " \"a\" b", "a", api.Fault{}},
		{"a name of runes of two bytes", "\"Éé\"\"ÿ\"", "Éé", api.Fault{}},
		{"a name of digits", "\"7\" 7", "7", api.Fault{}},
		{"a name with the text of a word", "\"lane\" lane", "lane", api.Fault{}},
		{"a name with the text of a mark", "\"-\" -", "-", api.Fault{}},
		{"the longest name", "\"" + strings.Repeat("é", 24) + "\"", strings.Repeat("é", 24), api.Fault{}},
		{"a word", "lane \"A\"", "", at(7, 1, 1)},
		{"a number", "\n 7 \"A\"", "", at(7, 2, 2)},
		{"a mark", "; \"A\"", "", at(7, 1, 1)},
		{"a sign before a name", "-\"A\"", "", at(7, 1, 1)},
		{"the end", "", "", at(2, 1, 1)},
		{"the end behind a comment", "# \"A\"\n", "", at(2, 2, 1)},
	} {
		c := newCursor(t, n.s)
		got, fault := c.Name()
		if got != n.name {
			t.Errorf("%s: Name of %q is %q, want %q", n.what, n.s, got, n.name)
		}
		checkFault(t, n.what, fault, n.fault)
		checkAt(t, n.what, c, after(n.s, n.name != ""))
	}
}

// P10.2: Down, Up and Depth.

func TestDown(t *testing.T) {
	c := newCursor(t, "a\n ;")
	for depth := range deepest {
		checkDepth(t, "before Down", c, depth)
		checkFault(t, "Down", c.Down(), api.Fault{})
	}
	for range 3 {
		checkFault(t, "Down at depth 8, at a word", c.Down(), at(8, 1, 1))
		checkDepth(t, "Down at depth 8", c, 8)
	}
	c.Next()
	checkFault(t, "Down at depth 8, at a mark", c.Down(), at(8, 2, 2))
	c.Next()
	checkFault(t, "Down at depth 8, at the end", c.Down(), at(8, 2, 3))
	checkDepth(t, "Down at depth 8, at the end", c, 8)
	checkAt(t, "Down at depth 8, at the end", c, api.Tok{Line: 2, Col: 3})
}

func TestUp(t *testing.T) {
	c := newCursor(t, "a")
	for range 3 {
		c.Up()
		checkDepth(t, "Up at depth 0", c, 0)
	}
	for range deepest {
		checkFault(t, "Down after Up at depth 0", c.Down(), api.Fault{})
	}
	checkFault(t, "Down at depth 8", c.Down(), at(8, 1, 1))
	for depth := deepest - 1; depth >= 0; depth-- {
		c.Up()
		checkDepth(t, "Up", c, depth)
	}
	c.Up()
	checkDepth(t, "Up at depth 0", c, 0)
	checkAt(t, "after Up", c, api.Tok{Kind: 1, Text: "a", Line: 1, Col: 1})
}

func TestDownAfterUp(t *testing.T) {
	c := newCursor(t, "{")
	for range deepest + 1 {
		c.Down()
	}
	for range 3 {
		c.Up()
		checkFault(t, "Down at depth 7", c.Down(), api.Fault{})
		checkFault(t, "Down at depth 8", c.Down(), at(8, 1, 1))
		checkDepth(t, "Down at depth 8", c, 8)
	}
}

func TestDepthAndTokensAreApart(t *testing.T) {
	c := newCursor(t, card)
	for i, tok := range ofCard {
		checkAt(t, "before Down", c, tok)
		c.Down()
		checkAt(t, "after Down", c, tok)
		c.Next()
		checkDepth(t, "after Next", c, min(i+1, deepest))
	}
}

// Requests, and what they return.

// answer is what a request returns: what it does not return is zero.
type answer struct {
	tok   api.Tok
	ok    bool
	n     int
	name  string
	fault api.Fault
}

// request is a request of a cursor, and what the chapter says of it.
type request struct {
	what string
	of   func(c *Cursor) answer
	want func(m *model) answer
}

// model is a cursor as the chapter defines it.
type model struct {
	list      []api.Tok
	at, depth int
}

func (m *model) tok() api.Tok { return m.list[m.at] }

// advance goes past n tokens.
func (m *model) advance(n int) { m.at = min(m.at+n, len(m.list)-1) }

// wrong is the fault of the token that stands n tokens behind the cursor.
func (m *model) wrong(n int) api.Fault {
	tok := m.list[m.at+n]
	if m.at+n == len(m.list)-1 {
		return at(2, tok.Line, tok.Col)
	}
	return at(7, tok.Line, tok.Col)
}

func (m *model) is(text string) bool {
	return slices.Contains([]int{1, 4}, m.tok().Kind) && m.tok().Text == text
}

func (m *model) take(text string) bool {
	is := m.is(text)
	if is {
		m.advance(1)
	}
	return is
}

func (m *model) int() answer {
	tok := m.tok()
	if tok.Kind != 2 {
		return answer{fault: m.wrong(0)}
	}
	m.advance(1)
	return answer{n: tok.N}
}

func (m *model) signed() answer {
	if !m.is("-") {
		return m.int()
	}
	second := m.list[m.at+1]
	if second.Kind != 2 {
		return answer{fault: m.wrong(1)}
	}
	m.advance(2)
	return answer{n: -second.N}
}

func (m *model) name() answer {
	tok := m.tok()
	if tok.Kind != 3 {
		return answer{fault: m.wrong(0)}
	}
	m.advance(1)
	return answer{name: tok.Text}
}

func (m *model) down() answer {
	if m.depth == deepest {
		return answer{fault: at(8, m.tok().Line, m.tok().Col)}
	}
	m.depth++
	return answer{}
}

// plain are the requests without an argument.
var plain = []request{
	{"Peek", func(c *Cursor) answer { return answer{tok: c.Peek()} }, func(m *model) answer { return answer{tok: m.tok()} }},
	{"Next", func(c *Cursor) answer { return answer{tok: c.Next()} }, func(m *model) answer {
		tok := m.tok()
		m.advance(1)
		return answer{tok: tok}
	}},
	{"Wrong", func(c *Cursor) answer { return answer{fault: c.Wrong()} }, func(m *model) answer { return answer{fault: m.wrong(0)} }},
	{"Int", func(c *Cursor) answer {
		n, fault := c.Int()
		return answer{n: n, fault: fault}
	}, (*model).int},
	{"Signed", func(c *Cursor) answer {
		n, fault := c.Signed()
		return answer{n: n, fault: fault}
	}, (*model).signed},
	{"Name", func(c *Cursor) answer {
		name, fault := c.Name()
		return answer{name: name, fault: fault}
	}, (*model).name},
	{"Down", func(c *Cursor) answer { return answer{fault: c.Down()} }, (*model).down},
	{"Up", func(c *Cursor) answer {
		c.Up()
		return answer{}
	}, func(m *model) answer {
		m.depth = max(m.depth-1, 0)
		return answer{}
	}},
	{"Depth", func(c *Cursor) answer { return answer{n: c.Depth()} }, func(m *model) answer { return answer{n: m.depth} }},
}

// requests returns all requests, those with an argument once for each of these.
func requests(arguments ...string) []request {
	list := slices.Clone(plain)
	for _, text := range arguments {
		list = append(list,
			request{"Is " + text, func(c *Cursor) answer { return answer{ok: c.Is(text)} }, func(m *model) answer { return answer{ok: m.is(text)} }},
			request{"Take " + text, func(c *Cursor) answer { return answer{ok: c.Take(text)} }, func(m *model) answer { return answer{ok: m.take(text)} }},
			request{"Want " + text, func(c *Cursor) answer { return answer{fault: c.Want(text)} }, func(m *model) answer {
				wrong := m.wrong(0)
				if m.take(text) {
					return answer{}
				}
				return answer{fault: wrong}
			}},
		)
	}
	return list
}

// checkRequest checks what a request returns, and where the cursor stands then.
func checkRequest(t *testing.T, s string, c *Cursor, m *model, r request) {
	t.Helper()
	before := m.at
	want := r.want(m)
	if got := r.of(c); got != want {
		t.Fatalf("%s at token %d of %q is %+v, want %+v", r.what, before, s, got, want)
	}
	if got := c.Peek(); got != m.tok() {
		t.Fatalf("after %s at token %d of %q stands %+v, want %+v", r.what, before, s, got, m.tok())
	}
	if got := c.Depth(); got != m.depth {
		t.Fatalf("after %s at token %d of %q the depth is %d, want %d", r.what, before, s, got, m.depth)
	}
}

// P10.1 and P10.2: requests in any order.

func TestEveryPairOfRequests(t *testing.T) {
	all := requests("a", "-", "", "7")
	for _, s := range []string{"", "-", "- -7", "7 \"A\"", "\"a\" a", "-7 a", "a - 7"} {
		list, _ := tokens.Scan(s)
		for steps := range len(list) {
			for _, first := range all {
				for _, second := range all {
					c := newCursor(t, s)
					walk(c, steps)
					m := &model{list: list, at: steps}
					checkRequest(t, s, c, m, first)
					checkRequest(t, s, c, m, second)
				}
			}
		}
	}
}

// pieces are what drawn texts are made of.
var pieces = []string{
	"a", "lane", "mine", "0", "7", "42", "\"A\"", "\"lane\"", "\"Éé\"", "\"7\"", "\"-\"", "{", "}", "(", ";", "+", "-", "-", "-", "<", "<=", "!=", "\n", "# é€\n",
}

// drawn returns a text of n pieces.
func drawn(draws *rand.Rand, n int) string {
	var s strings.Builder
	for range n {
		s.WriteString(pieces[draws.Intn(len(pieces))])
		s.WriteString(" ")
	}
	return s.String()
}

func TestDrawnRequests(t *testing.T) {
	draws := rand.New(rand.NewSource(10))
	all := requests("a", "lane", "-", "<", "<=", "7", "A", "")
	for n := range 1500 {
		s := drawn(draws, n%40)
		list, _ := tokens.Scan(s)
		c, m := newCursor(t, s), &model{list: list}
		for range 4 * len(list) {
			checkRequest(t, s, c, m, all[draws.Intn(len(all))])
		}
	}
}

func TestDrawnDepths(t *testing.T) {
	draws := rand.New(rand.NewSource(102))
	all := requests()
	deeper := slices.IndexFunc(all, func(r request) bool { return r.what == "Down" })
	for range 200 {
		s := drawn(draws, 100)
		list, _ := tokens.Scan(s)
		c, m := newCursor(t, s), &model{list: list}
		for range 200 {
			checkRequest(t, s, c, m, all[draws.Intn(len(all))])
			checkRequest(t, s, c, m, all[deeper])
		}
	}
}

func TestCursorsAreApart(t *testing.T) {
	draws := rand.New(rand.NewSource(103))
	all := requests("a", "-")
	for range 200 {
		s := drawn(draws, 20)
		list, _ := tokens.Scan(s)
		c, d := newCursor(t, s), newCursor(t, s)
		ofC, ofD := &model{list: list}, &model{list: list}
		for range 50 {
			checkRequest(t, s, c, ofC, all[draws.Intn(len(all))])
			checkRequest(t, s, d, ofD, all[draws.Intn(len(all))])
		}
	}
}

// Requests are methods, which callers pass as values: each speaks of the cursor
// of which it was taken, wherever that stands when it is called.
func TestRequestsAsValues(t *testing.T) {
	c := newCursor(t, "\"A\" 3 -4 a")
	name, number, signed, take, wrong := c.Name, c.Int, c.Signed, c.Take, c.Wrong
	checkFault(t, "Wrong as a value", wrong(), at(7, 1, 1))
	if got, fault := name(); got != "A" || fault != (api.Fault{}) {
		t.Errorf("Name as a value is %q, with the fault %v", got, fault)
	}
	if got, fault := number(); got != 3 || fault != (api.Fault{}) {
		t.Errorf("Int as a value is %d, with the fault %v", got, fault)
	}
	if got, fault := signed(); got != -4 || fault != (api.Fault{}) {
		t.Errorf("Signed as a value is %d, with the fault %v", got, fault)
	}
	if !take("a") {
		t.Error("Take as a value is false")
	}
	checkFault(t, "Wrong as a value, at the end", wrong(), at(2, 1, 11))
	checkAt(t, "after requests as values", c, api.Tok{Line: 1, Col: 11})
}

// P10.3: a nil cursor; and R5: a zero one.

func TestNilCursor(t *testing.T) {
	var c *Cursor
	failing := []string{"Wrong", "Int", "Signed", "Name", "Down"}
	for range 2 {
		for _, r := range requests("a", "-", "") {
			var want answer
			if strings.HasPrefix(r.what, "Want") || slices.Contains(failing, r.what) {
				want.fault = at(api.ErrArg, 0, 0)
			}
			if got := r.of(c); got != want {
				t.Errorf("%s of a nil cursor is %+v, want %+v", r.what, got, want)
			}
		}
	}
}

func TestCursorOfAFaultIsNil(t *testing.T) {
	for _, f := range faulty {
		c, _ := New(f.s)
		checkFault(t, f.what+", Wrong", c.Wrong(), at(1, 0, 0))
		checkFault(t, f.what+", Down", c.Down(), at(1, 0, 0))
		c.Up()
		checkAt(t, f.what, c, api.Tok{})
		checkDepth(t, f.what, c, 0)
	}
}

func TestZeroCursor(t *testing.T) {
	c := new(Cursor)
	for range 2 * deepest {
		for _, r := range requests("a", "-", "") {
			if got := r.of(c); got != (answer{}) {
				t.Errorf("%s of a zero cursor is %+v", r.what, got)
			}
			checkAt(t, r.what+" of a zero cursor", c, api.Tok{})
			checkDepth(t, r.what+" of a zero cursor", c, 0)
		}
	}
}

// P10.4: a cursor only advances.

func TestACursorOnlyAdvances(t *testing.T) {
	draws := rand.New(rand.NewSource(104))
	all := requests("a", "lane", "-", "<=", "7", "")
	for n := range 300 {
		s := drawn(draws, n%60)
		list, _ := tokens.Scan(s)
		c := newCursor(t, s)
		before := 0
		for range 3 * len(list) {
			r := all[draws.Intn(len(all))]
			r.of(c)
			now := slices.Index(list, c.Peek())
			if now < before || now > before+2 || now > before+1 && r.what != "Signed" {
				t.Fatalf("%s in %q goes from token %d to token %d", r.what, s, before, now)
			}
			before = now
		}
	}
}

func TestAsManyNextsAsTokens(t *testing.T) {
	draws := rand.New(rand.NewSource(105))
	all := requests("a", "lane", "-", "")
	for n := range 300 {
		s := drawn(draws, n%60)
		list, _ := tokens.Scan(s)
		c := newCursor(t, s)
		for range list {
			all[draws.Intn(len(all))].of(c)
			c.Next()
		}
		checkAt(t, "as many calls of Next as tokens", c, list[len(list)-1])
		checkFault(t, "as many calls of Next as tokens", c.Wrong(), at(2, list[len(list)-1].Line, list[len(list)-1].Col))
	}
}

// The chapter's example.

func TestExample(t *testing.T) {
	c := newCursor(t, "- 3")
	if n, fault := c.Signed(); n != -3 || fault != (api.Fault{}) {
		t.Errorf("Signed is %d, with the fault %v", n, fault)
	}
	checkAt(t, "after Signed", c, api.Tok{Line: 1, Col: 4})
	checkFault(t, "after Signed", c.Wrong(), at(2, 1, 4))
}

// R4: what does not depend on earlier calls.

func TestFaultsLeaveNothingBehind(t *testing.T) {
	for _, f := range faulty {
		New(f.s)
		if got := walk(newCursor(t, card), len(ofCard)); !slices.Equal(got, ofCard) {
			t.Errorf("after %s the tokens are %+v", f.what, got)
		}
	}
}
