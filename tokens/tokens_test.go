package tokens

import (
	"math/rand"
	"regexp"
	"slices"
	"strconv"
	"strings"
	"testing"
	"unicode"

	"trident/api"
	"trident/internal/short"
	"trident/runes"
)

// longest is the number of bytes of the longest text.
const longest = 65536

// The tokens, as the tests write them.

func aWord(line, col int, text string) api.Tok {
	return api.Tok{Kind: 1, Text: text, Line: line, Col: col}
}

func aNumber(line, col int, text string, n int) api.Tok {
	return api.Tok{Kind: 2, Text: text, N: n, Line: line, Col: col}
}

func aName(line, col int, text string) api.Tok {
	return api.Tok{Kind: 3, Text: text, Line: line, Col: col}
}

func aMark(line, col int, text string) api.Tok {
	return api.Tok{Kind: 4, Text: text, Line: line, Col: col}
}

func theEnd(line, col int) api.Tok {
	return api.Tok{Kind: 0, Line: line, Col: col}
}

// check checks what Scan returns, and shows where the tokens differ first: there
// may be many.
func check(t *testing.T, what, s string, want []api.Tok, wantFault api.Fault) {
	t.Helper()
	got, fault := Scan(s)
	if fault != wantFault {
		t.Errorf("%s: Scan(%.60q) has the fault %v, want %v", what, s, fault, wantFault)
	}
	if slices.Equal(got, want) {
		return
	}
	at := 0
	for at < min(len(got), len(want)) && got[at] == want[at] {
		at++
	}
	t.Errorf("%s: Scan(%.60q) has %d tokens, from index %d on %+v, want %d, %+v",
		what, s, len(got), at, got[at:min(at+3, len(got))], len(want), want[at:min(at+3, len(want))])
}

// texts are texts with their tokens, but for the end, and the end's position.
var texts = []struct {
	what, s   string
	tokens    []api.Tok
	line, col int
}{
	{"the chapter's example", "lane 2; # so", []api.Tok{aWord(1, 1, "lane"), aNumber(1, 6, "2", 2), aMark(1, 7, ";")}, 1, 13},
	{"the empty text", "", nil, 1, 1},

	{"a space", " ", nil, 1, 2},
	{"a tab is one column", "\t", nil, 1, 2},
	{"a line end", "\n", nil, 2, 1},
	{"blanks of all kinds", " \t\n\n\t  ", nil, 3, 4},
	{"an empty comment", "#", nil, 1, 2},
	{"a comment that ends with the text", "# so", nil, 1, 5},
	{"a comment that ends with its line", "# so\n", nil, 2, 1},
	{"a token on the line after a comment", "# so\na", []api.Tok{aWord(2, 1, "a")}, 2, 2},
	{"an empty comment that ends with its line", "#\na", []api.Tok{aWord(2, 1, "a")}, 2, 2},
	{"comments on lines that follow each other", "# so\n# and so\n\n#\n", nil, 5, 1},
	{"a comment in a comment", "# so # and so\na", []api.Tok{aWord(2, 1, "a")}, 2, 2},
	{"a comment behind blanks", " \t# so", nil, 1, 7},
	{"a comment behind a token on the same line", "a # so\nb", []api.Tok{aWord(1, 1, "a"), aWord(2, 1, "b")}, 2, 2},
	{"a comment right behind a word", "a#b", []api.Tok{aWord(1, 1, "a")}, 1, 4},
	{"a comment right behind a number", "1#2\n3", []api.Tok{aNumber(1, 1, "1", 1), aNumber(2, 1, "3", 3)}, 2, 2},
	{"a comment right behind a name", "\"A\"#\"", []api.Tok{aName(1, 1, "A")}, 1, 6},
	{"a comment right behind a mark", "<#=", []api.Tok{aMark(1, 1, "<")}, 1, 4},
	{"a comment between marks that would be one", "<#\n=", []api.Tok{aMark(1, 1, "<"), aMark(2, 1, "=")}, 2, 2},
	{"what would be a fault, in a comment", "# \"100 ! A \r é € \xff\xe2\x82\na", []api.Tok{aWord(2, 1, "a")}, 2, 2},
	{"a comment that ends with half a rune", "#\xe2\x82", nil, 1, 4},
	{"runes of a comment are columns", "#é€\U0001f0a1", nil, 1, 5},

	{"a word", "reveal", []api.Tok{aWord(1, 1, "reveal")}, 1, 7},
	{"the first and the last letter", "a z az", []api.Tok{aWord(1, 1, "a"), aWord(1, 3, "z"), aWord(1, 5, "az")}, 1, 7},
	{"a long word", strings.Repeat("abcdefghijklmnopqrstuvwxyz", 100), []api.Tok{aWord(1, 1, strings.Repeat("abcdefghijklmnopqrstuvwxyz", 100))}, 1, 2601},
	{"words on lines of their own", "a\nb\n\nc\n", []api.Tok{aWord(1, 1, "a"), aWord(2, 1, "b"), aWord(4, 1, "c")}, 5, 1},
	{"words behind tabs", "\ta\n\t\tb\t", []api.Tok{aWord(1, 2, "a"), aWord(2, 3, "b")}, 2, 5},

	{"0", "0", []api.Tok{aNumber(1, 1, "0", 0)}, 1, 2},
	{"7", "7", []api.Tok{aNumber(1, 1, "7", 7)}, 1, 2},
	{"9", "9", []api.Tok{aNumber(1, 1, "9", 9)}, 1, 2},
	{"10", "10", []api.Tok{aNumber(1, 1, "10", 10)}, 1, 3},
	{"42", "42", []api.Tok{aNumber(1, 1, "42", 42)}, 1, 3},
	{"99", "99", []api.Tok{aNumber(1, 1, "99", 99)}, 1, 3},
	{"zeros by themselves", "0 0\n0", []api.Tok{aNumber(1, 1, "0", 0), aNumber(1, 3, "0", 0), aNumber(2, 1, "0", 0)}, 2, 2},
	{"a sign is a mark", "-10+0", []api.Tok{aMark(1, 1, "-"), aNumber(1, 2, "10", 10), aMark(1, 4, "+"), aNumber(1, 5, "0", 0)}, 1, 6},

	{"a word next to a number", "lane2", []api.Tok{aWord(1, 1, "lane"), aNumber(1, 5, "2", 2)}, 1, 6},
	{"a number next to a word", "2lane", []api.Tok{aNumber(1, 1, "2", 2), aWord(1, 2, "lane")}, 1, 6},
	{"words and numbers next to each other", "a1b22c0d", []api.Tok{
		aWord(1, 1, "a"), aNumber(1, 2, "1", 1), aWord(1, 3, "b"), aNumber(1, 4, "22", 22), aWord(1, 6, "c"), aNumber(1, 7, "0", 0), aWord(1, 8, "d"),
	}, 1, 9},
	{"everything next to each other", "a\"B\"3\"c\"d;\"E\";4", []api.Tok{
		aWord(1, 1, "a"), aName(1, 2, "B"), aNumber(1, 5, "3", 3), aName(1, 6, "c"), aWord(1, 9, "d"), aMark(1, 10, ";"), aName(1, 11, "E"), aMark(1, 14, ";"), aNumber(1, 15, "4", 4),
	}, 1, 16},

	{"a name", "\"Wild Hunt\"", []api.Tok{aName(1, 1, "Wild Hunt")}, 1, 12},
	{"a name of one letter", "\"a\"", []api.Tok{aName(1, 1, "a")}, 1, 4},
	{"a name of digits keeps no number", "\"100\"", []api.Tok{aName(1, 1, "100")}, 1, 6},
	{"an apostrophe and a hyphen", "\"O'Dea-7\" \"'\" \"-\"", []api.Tok{aName(1, 1, "O'Dea-7"), aName(1, 11, "'"), aName(1, 15, "-")}, 1, 18},
	{"letters of two bytes are a column each", "\"Éönĳ\" \"é\"x", []api.Tok{aName(1, 1, "Éönĳ"), aName(1, 8, "é"), aWord(1, 11, "x")}, 1, 12},
	{"the longest name", "\"" + strings.Repeat("m", 24) + "\"", []api.Tok{aName(1, 1, strings.Repeat("m", 24))}, 1, 27},
	{"the longest name in bytes", "\"" + strings.Repeat("ɏ", 24) + "\"", []api.Tok{aName(1, 1, strings.Repeat("ɏ", 24))}, 1, 27},
	{"two names next to each other", "\"A\"\"B\"", []api.Tok{aName(1, 1, "A"), aName(1, 4, "B")}, 1, 7},
	{"what stands between two names", "\"A\" b \"C\"", []api.Tok{aName(1, 1, "A"), aWord(1, 5, "b"), aName(1, 7, "C")}, 1, 10},

	{"marks behind each other", "{}();+-*", []api.Tok{
		aMark(1, 1, "{"), aMark(1, 2, "}"), aMark(1, 3, "("), aMark(1, 4, ")"), aMark(1, 5, ";"), aMark(1, 6, "+"), aMark(1, 7, "-"), aMark(1, 8, "*"),
	}, 1, 9},
	{"marks that hold numbers against each other", "= < > <= >= !=", []api.Tok{
		aMark(1, 1, "="), aMark(1, 3, "<"), aMark(1, 5, ">"), aMark(1, 7, "<="), aMark(1, 10, ">="), aMark(1, 13, "!="),
	}, 1, 15},
	{"the longest marks behind each other", "<=>=!=<>=", []api.Tok{
		aMark(1, 1, "<="), aMark(1, 3, ">="), aMark(1, 5, "!="), aMark(1, 7, "<"), aMark(1, 8, ">="),
	}, 1, 10},
	{"= after a longest mark", "<== >== !== ==", []api.Tok{
		aMark(1, 1, "<="), aMark(1, 3, "="), aMark(1, 5, ">="), aMark(1, 7, "="), aMark(1, 9, "!="), aMark(1, 11, "="), aMark(1, 13, "="), aMark(1, 14, "="),
	}, 1, 15},
	{"= before what would be the longest mark", "=< => <> ><=", []api.Tok{
		aMark(1, 1, "="), aMark(1, 2, "<"), aMark(1, 4, "="), aMark(1, 5, ">"), aMark(1, 7, "<"), aMark(1, 8, ">"), aMark(1, 10, ">"), aMark(1, 11, "<="),
	}, 1, 13},
	{"blanks between marks that would be one", "< =\n>\t=\n<\n=", []api.Tok{
		aMark(1, 1, "<"), aMark(1, 3, "="), aMark(2, 1, ">"), aMark(2, 3, "="), aMark(3, 1, "<"), aMark(4, 1, "="),
	}, 4, 2},
	{"< and > at the end", "1 <", []api.Tok{aNumber(1, 1, "1", 1), aMark(1, 3, "<")}, 1, 4},

	{"tokens behind runes of several bytes", "\"Éé\" a # €\U0001f0a1\n\"ÿ\" 12;\n", []api.Tok{
		aName(1, 1, "Éé"), aWord(1, 6, "a"), aName(2, 1, "ÿ"), aNumber(2, 5, "12", 12), aMark(2, 7, ";"),
	}, 3, 1},
	{"an end behind blanks", "a \n ", []api.Tok{aWord(1, 1, "a")}, 2, 2},
	{"an end behind a comment with bytes that are no rune", "a #\xff\xfe", []api.Tok{aWord(1, 1, "a")}, 1, 6},
	{"a card", "card \"Iron Boar\" cost 3 power -4 { # so\n\treveal { destroy (theirs power <= 2 first); }\n}\n", []api.Tok{
		aWord(1, 1, "card"), aName(1, 6, "Iron Boar"), aWord(1, 18, "cost"), aNumber(1, 23, "3", 3), aWord(1, 25, "power"), aMark(1, 31, "-"), aNumber(1, 32, "4", 4), aMark(1, 34, "{"),
		aWord(2, 2, "reveal"), aMark(2, 9, "{"), aWord(2, 11, "destroy"), aMark(2, 19, "("), aWord(2, 20, "theirs"), aWord(2, 27, "power"), aMark(2, 33, "<="),
		aNumber(2, 36, "2", 2), aWord(2, 38, "first"), aMark(2, 43, ")"), aMark(2, 44, ";"), aMark(2, 46, "}"), aMark(3, 1, "}"),
	}, 4, 1},
}

// faulty are texts with a fault, and where it is.
var faulty = []struct {
	what, s   string
	e         api.Errno
	line, col int
}{
	{"a number of 3 digits", "100", api.ErrRange, 1, 1},
	{"999", "a 999", api.ErrRange, 1, 3},
	{"00", "00", api.ErrRange, 1, 1},
	{"07", "lane 07;", api.ErrRange, 1, 6},
	{"01 next to a word", "a01b", api.ErrRange, 1, 2},
	{"three zeros", "000", api.ErrRange, 1, 1},
	{"digits that begin like a number", "42000", api.ErrRange, 1, 1},
	{"9 digits", "123456789", api.ErrRange, 1, 1},
	{"10 digits", "1234567890", api.ErrRange, 1, 1},
	{"more digits than any int has", strings.Repeat("9", 100), api.ErrRange, 1, 1},
	{"a negative number of 3 digits", "-100", api.ErrRange, 1, 2},
	{"a number of 3 digits behind a line end", "a\n 100", api.ErrRange, 2, 2},

	{"an empty pair of quotes", "\"\"", api.ErrName, 1, 1},
	{"an empty pair of quotes and a name", "\"\"A\"", api.ErrName, 1, 1},
	{"a quote alone", "\"", api.ErrName, 1, 1},
	{"a quote that nothing closes", "card \"Iron Boar cost 3", api.ErrName, 1, 6},
	{"a quote that nothing closes before a line end", "\"A\n", api.ErrName, 1, 1},
	{"the third quote", "\"A\"\"", api.ErrName, 1, 4},
	{"a quote that begins a name only", "a\"B", api.ErrName, 1, 2},
	{"a name over a line end", "\"Iron\nBoar\"", api.ErrName, 1, 1},
	{"a line end for a name", "a\n\"\n\"", api.ErrName, 2, 1},
	{"a line end behind a name", "\"A\n\"", api.ErrName, 1, 1},
	{"a tab in a name", "\"Iron\tBoar\"", api.ErrName, 1, 1},
	{"a space before a name", "\" A\"", api.ErrName, 1, 1},
	{"a space behind a name", "\"A \"", api.ErrName, 1, 1},
	{"a space for a name", "\" \"", api.ErrName, 1, 1},
	{"a # in a name begins no comment", "\"A#B\"", api.ErrName, 1, 1},
	{"a # before the quote that closes", "\"A#\"\n\"", api.ErrName, 1, 1},
	{"a point in a name", "\"St. Elmo\"", api.ErrName, 1, 1},
	{"an underscore in a name", "\"A_B\"", api.ErrName, 1, 1},
	{"a mark in a name", "\"A+B\"", api.ErrName, 1, 1},
	{"a sign of multiplication in a name", "\"A×B\"", api.ErrName, 1, 1},
	{"a sign of division in a name", "\"A÷B\"", api.ErrName, 1, 1},
	{"a rune of three bytes in a name", "\"A€\"", api.ErrName, 1, 1},
	{"a letter above the ones that names may have", "\"ɐ\"", api.ErrName, 1, 1},
	{"a byte 0 in a name", "\"A\x00B\"", api.ErrName, 1, 1},
	{"a byte that is no rune in a name", "\"A\xe9B\"", api.ErrName, 1, 1},
	{"a backslash before a quote", "\"A\\\"B\"", api.ErrName, 1, 1},
	{"a name of 25 runes", "\"" + strings.Repeat("m", 25) + "\"", api.ErrName, 1, 1},
	{"a name of 25 runes of two bytes", "\"" + strings.Repeat("é", 25) + "\"", api.ErrName, 1, 1},

	{"a ! alone", "!", api.ErrChar, 1, 1},
	{"a ! without =", "1 ! 2", api.ErrChar, 1, 3},
	{"a blank between ! and =", "! =", api.ErrChar, 1, 1},
	{"a ! behind =", "=!", api.ErrChar, 1, 2},
	{"a ! before !=", "!!=", api.ErrChar, 1, 1},
	{"a ! before <=", "!<=", api.ErrChar, 1, 1},
	{"a comma", "a,b", api.ErrChar, 1, 2},
	{"a point", ".", api.ErrChar, 1, 1},
	{"an apostrophe outside a name", "'a'", api.ErrChar, 1, 1},
	{"an underscore", "a_b", api.ErrChar, 1, 2},
	{"a solidus", "1/2", api.ErrChar, 1, 2},
	{"a square bracket", "[", api.ErrChar, 1, 1},
	{"a carriage return", "a\r\nb", api.ErrChar, 1, 2},
	{"a vertical tab", "\v", api.ErrChar, 1, 1},
	{"a form feed", " \f", api.ErrChar, 1, 2},
	{"a byte 0", "\x00", api.ErrChar, 1, 1},
	{"a byte 0 behind a token", "a\x00", api.ErrChar, 1, 2},
	{"a byte 127", "\x7f", api.ErrChar, 1, 1},
	{"a capital", "Card", api.ErrChar, 1, 1},
	{"a capital behind small letters", "carD", api.ErrChar, 1, 4},
	{"just below a", "`", api.ErrChar, 1, 1},
	{"just above z", "~ |", api.ErrChar, 1, 1},
	{"a letter of two bytes", "a é", api.ErrChar, 1, 3},
	{"a letter of two bytes behind a word", "caf\u00e9", api.ErrChar, 1, 4},
	{"a space of two bytes", "a\u00a0b", api.ErrChar, 1, 2},
	{"a line end of three bytes", "a\n\u2028", api.ErrChar, 2, 1},
	{"a digit of two bytes", "1٢", api.ErrChar, 1, 2},
	{"a digit of three bytes", "１", api.ErrChar, 1, 1},
	{"a quote of three bytes", "“A”", api.ErrChar, 1, 1},
	{"a mark of three bytes", "1 ≤ 2", api.ErrChar, 1, 3},
	{"a rune of four bytes", ";\U0001f0a1", api.ErrChar, 1, 2},
	{"a rune that stands for what is no rune", "\ufffd", api.ErrChar, 1, 1},
	{"a rune that says how bytes are ordered", "\ufeffcard", api.ErrChar, 1, 1},
	{"a byte that begins no rune", "a \xff", api.ErrChar, 1, 3},
	{"a byte that goes on", "\xa9", api.ErrChar, 1, 1},
	{"a byte that goes on behind a name", "\"é\"\xa9", api.ErrChar, 1, 4},
	{"a rune that the end cuts off", "a\xc3", api.ErrChar, 1, 2},
	{"a rune that a token cuts off", "\xe2\x82a", api.ErrChar, 1, 1},
	{"behind runes of several bytes in a name", "\"Éé\" ,", api.ErrChar, 1, 6},
	{"behind runes of several bytes in a comment", "# €\U0001f0a1\n,", api.ErrChar, 2, 1},
	{"behind bytes that are no rune in a comment", "# \xe2\x82\n\n  ,", api.ErrChar, 3, 3},

	{"a number before a quote", "100 \"", api.ErrRange, 1, 1},
	{"a quote before a number", "\" 100", api.ErrName, 1, 1},
	{"a quote that is closed before a number", "\"A,\" 100", api.ErrName, 1, 1},
	{"a number before a rune", "007,", api.ErrRange, 1, 1},
	{"a rune before a number", ",007", api.ErrChar, 1, 1},
	{"a rune before a quote", "É\"", api.ErrChar, 1, 1},
	{"a quote before a rune", "\"É", api.ErrName, 1, 1},
	{"a rune on the line before a number", "a\n$\n100", api.ErrChar, 2, 1},
	{"a number on the line before a rune", "a\n 00\n$", api.ErrRange, 2, 2},
	{"two numbers", "1 100 00", api.ErrRange, 1, 3},
	{"a fault behind a comment with one", "# 100\n\"", api.ErrName, 2, 1},
}

// P9.1: the tokens.

func TestScan(t *testing.T) {
	for _, c := range texts {
		check(t, c.what, c.s, append(slices.Clone(c.tokens), theEnd(c.line, c.col)), api.Fault{})
	}
}

func TestScanOfFaults(t *testing.T) {
	for _, c := range faulty {
		check(t, c.what, c.s, nil, api.Fault{E: c.e, Line: c.line, Col: c.col})
	}
}

// Of two faults the first in the text counts, and what stands before it does not.
func TestScanOfFaultsBehindTexts(t *testing.T) {
	for _, c := range texts {
		for _, f := range faulty {
			want := api.Fault{E: f.e, Line: c.line + f.line, Col: f.col}
			check(t, c.what+", before "+f.what, c.s+"\n"+f.s, nil, want)
		}
	}
}

func TestScanOfFaultsBehindFaults(t *testing.T) {
	for _, c := range faulty {
		if c.e == api.ErrName {
			// What follows might close the quote.
			continue
		}
		for _, f := range faulty {
			check(t, c.what+", before "+f.what, c.s+"\n"+f.s, nil, api.Fault{E: c.e, Line: c.line, Col: c.col})
		}
	}
}

func TestScanOfEveryNumber(t *testing.T) {
	for n := range 1200 {
		s := strconv.Itoa(n)
		if n < 100 {
			check(t, "a number", s, []api.Tok{aNumber(1, 1, s, n), theEnd(1, 1+len(s))}, api.Fault{})
		} else {
			check(t, "too great a number", s, nil, api.Fault{E: api.ErrRange, Line: 1, Col: 1})
		}
		check(t, "a number with a leading zero", "0"+s, nil, api.Fault{E: api.ErrRange, Line: 1, Col: 1})
	}
}

func TestScanOfEveryMark(t *testing.T) {
	for _, m := range []string{"{", "}", "(", ")", ";", "+", "-", "*", "=", "<", ">", "<=", ">=", "!="} {
		size := len(m)
		check(t, "a mark", m, []api.Tok{aMark(1, 1, m), theEnd(1, 1+size)}, api.Fault{})
		check(t, "a mark between words", "a"+m+"b", []api.Tok{aWord(1, 1, "a"), aMark(1, 2, m), aWord(1, 2+size, "b"), theEnd(1, 3+size)}, api.Fault{})
		check(t, "a mark between numbers", "1"+m+"2", []api.Tok{aNumber(1, 1, "1", 1), aMark(1, 2, m), aNumber(1, 2+size, "2", 2), theEnd(1, 3+size)}, api.Fault{})
		check(t, "a mark between names", "\"A\""+m+"\"B\"", []api.Tok{aName(1, 1, "A"), aMark(1, 4, m), aName(1, 4+size, "B"), theEnd(1, 7+size)}, api.Fault{})
		check(t, "a mark twice", m+" "+m, []api.Tok{aMark(1, 1, m), aMark(1, 2+size, m), theEnd(1, 2+2*size)}, api.Fault{})
	}
}

// checkRune checks the text that is nothing but one rune.
func checkRune(t *testing.T, s string, r rune) {
	t.Helper()
	switch {
	case 'a' <= r && r <= 'z':
		check(t, "a small letter", s, []api.Tok{aWord(1, 1, s), theEnd(1, 2)}, api.Fault{})
	case '0' <= r && r <= '9':
		check(t, "a digit", s, []api.Tok{aNumber(1, 1, s, int(r-'0')), theEnd(1, 2)}, api.Fault{})
	case strings.ContainsRune("{}();+-*=<>", r):
		check(t, "a mark", s, []api.Tok{aMark(1, 1, s), theEnd(1, 2)}, api.Fault{})
	case r == ' ' || r == '\t' || r == '#':
		check(t, "nothing", s, []api.Tok{theEnd(1, 2)}, api.Fault{})
	case r == '\n':
		check(t, "a line end", s, []api.Tok{theEnd(2, 1)}, api.Fault{})
	case r == '"':
		check(t, "a quote", s, nil, api.Fault{E: api.ErrName, Line: 1, Col: 1})
	default:
		check(t, "any other rune", s, nil, api.Fault{E: api.ErrChar, Line: 1, Col: 1})
	}
}

func TestScanOfEveryRune(t *testing.T) {
	for r := rune(0); r <= unicode.MaxRune; r++ {
		checkRune(t, string(r), r)
	}
	for b := range 0x80 {
		checkRune(t, string([]byte{byte(b + 0x80)}), 0xfffd)
	}
}

// inName reports whether a name may have r between two letters.
func inName(r rune) bool {
	switch {
	case r == 0xd7 || r == 0xf7:
		return false
	case r < 0x80:
		return 'a' <= r && r <= 'z' || 'A' <= r && r <= 'Z' || '0' <= r && r <= '9' || strings.ContainsRune(" '-", r)
	}
	return 0xc0 <= r && r <= 0x24f
}

func TestScanOfNamesWithEveryRune(t *testing.T) {
	for r := rune(0); r <= 0x3000; r++ {
		name := "a" + string(r) + "b"
		s := "\n\"" + name + "\";"
		if inName(r) {
			check(t, "a name", s, []api.Tok{aName(2, 1, name), aMark(2, 6, ";"), theEnd(2, 7)}, api.Fault{})
		} else if r != '"' {
			check(t, "no name", s, nil, api.Fault{E: api.ErrName, Line: 2, Col: 1})
		}
	}
	check(t, "a quote in a name closes it", "\"a\"b\"", nil, api.Fault{E: api.ErrName, Line: 1, Col: 5})
}

func TestScanOfNamesOfEveryLength(t *testing.T) {
	for size := range 200 {
		for _, letter := range []string{"a", "-", "é"} {
			name := strings.Repeat(letter, size)
			s := " \"" + name + "\""
			if 1 <= size && size <= 24 {
				check(t, "a name", s, []api.Tok{aName(1, 2, name), theEnd(1, 4+size)}, api.Fault{})
			} else {
				check(t, "too long a name, or none", s, nil, api.Fault{E: api.ErrName, Line: 1, Col: 2})
			}
		}
	}
}

// P9.1: long texts.

func TestScanOfTheLongestText(t *testing.T) {
	end := longest + 1
	for _, c := range []struct {
		what, s string
		want    []api.Tok
		fault   api.Fault
	}{
		{"spaces", strings.Repeat(" ", longest), []api.Tok{theEnd(1, end)}, api.Fault{}},
		{"line ends", strings.Repeat("\n", longest), []api.Tok{theEnd(end, 1)}, api.Fault{}},
		{"one word", strings.Repeat("x", longest), []api.Tok{aWord(1, 1, strings.Repeat("x", longest)), theEnd(1, end)}, api.Fault{}},
		{"one comment", strings.Repeat("#", longest), []api.Tok{theEnd(1, end)}, api.Fault{}},
		{"runes of two bytes in a comment", "##" + strings.Repeat("é", longest/2-1), []api.Tok{theEnd(1, 2+longest/2)}, api.Fault{}},
		{"bytes that are no rune in a comment", "#" + strings.Repeat("\xff", longest-1), []api.Tok{theEnd(1, end)}, api.Fault{}},
		{"comments on lines of their own", strings.Repeat("#\n", longest/2), []api.Tok{theEnd(1+longest/2, 1)}, api.Fault{}},
		{"a word at the end", strings.Repeat(" ", longest-1) + "a", []api.Tok{aWord(1, longest, "a"), theEnd(1, end)}, api.Fault{}},
		{"a digit at the end", strings.Repeat("\n", longest-1) + "7", []api.Tok{aNumber(longest, 1, "7", 7), theEnd(longest, 2)}, api.Fault{}},
		{"digits", strings.Repeat("1", longest), nil, api.Fault{E: api.ErrRange, Line: 1, Col: 1}},
		{"a quote at the end", strings.Repeat(" ", longest-1) + "\"", nil, api.Fault{E: api.ErrName, Line: 1, Col: longest}},
		{"a quote that is closed at the end", "\"" + strings.Repeat("a", longest-2) + "\"", nil, api.Fault{E: api.ErrName, Line: 1, Col: 1}},
		{"a rune at the end", strings.Repeat("\n", longest-2) + "é", nil, api.Fault{E: api.ErrChar, Line: longest - 1, Col: 1}},
	} {
		if len(c.s) != longest {
			t.Fatalf("%s: the text has %d bytes", c.what, len(c.s))
		}
		check(t, c.what, c.s, c.want, c.fault)
	}
}

func TestScanOfTheMostTokens(t *testing.T) {
	var marks, words []api.Tok
	for i := range longest {
		marks = append(marks, aMark(1, 1+i, ";"))
	}
	for i := range longest / 2 {
		words = append(words, aWord(1+i, 1, "a"))
	}
	check(t, "marks", strings.Repeat(";", longest), append(marks, theEnd(1, longest+1)), api.Fault{})
	check(t, "words on lines of their own", strings.Repeat("a\n", longest/2), append(words, theEnd(1+longest/2, 1)), api.Fault{})
	check(t, "marks before a fault", strings.Repeat(";", longest-1)+"!", nil, api.Fault{E: api.ErrChar, Line: 1, Col: longest})
}

func TestScanOfTooLongTexts(t *testing.T) {
	for _, size := range []int{longest + 1, longest + 2, 2 * longest, 1 << 21} {
		for _, c := range []struct {
			what, first, each, last string
		}{
			{"spaces", "", " ", ""},
			{"line ends", "", "\n", ""},
			{"a word", "", "x", ""},
			{"a comment", "#", "x", ""},
			{"fewer runes than bytes", "#", "€", ""},
			{"a card", "card \"Iron Boar\" cost 3 power 4 { }", "\n", ""},
			{"a number at the beginning", "100", " ", ""},
			{"a quote at the beginning", "\"", "\n", ""},
			{"a rune at the beginning", "É", "a", ""},
			{"a number behind line ends", "\n\n\n 100", " ", ""},
			{"a quote behind line ends", "\n\n \"", " ", ""},
			{"a rune behind line ends", "\n \xff", " ", ""},
			{"a fault at the end", "", "\n", "!"},
			{"a quote at the end", "", " ", "\""},
			{"all of it a fault", "", "\xff", ""},
			{"all of it quotes", "", "\"", ""},
			{"all of it digits", "", "0", ""},
		} {
			room := size - len(c.first) - len(c.last)
			s := c.first + strings.Repeat(c.each, (room+len(c.each)-1)/len(c.each)) + c.last
			if len(s) < size {
				t.Fatalf("%s: the text has %d bytes", c.what, len(s))
			}
			check(t, c.what, s, nil, api.Fault{E: api.ErrLong, Line: 1, Col: 1})
		}
	}
}

// Everything held against what the promises say, by patterns.

var (
	gapForm    = regexp.MustCompile(`^(?:[ \t\n]|#[^\n]*)*`)
	wordForm   = regexp.MustCompile(`^[a-z]+`)
	digitsForm = regexp.MustCompile(`^[0-9]+`)
	numberForm = regexp.MustCompile(`^(?:[0-9]|[1-9][0-9])$`)
	quotedForm = regexp.MustCompile(`^"[^"]*"`)
	nameForm   = regexp.MustCompile(`^"[A-Za-zÀ-ÖØ-öø-ɏ0-9 '\-]{1,24}"$`)
	spaceForm  = regexp.MustCompile(`^" | "$`)
	markForm   = regexp.MustCompile(`^(?:[<>!]=|[{}();+\-*=<>])`)
)

// wantFirst returns the token at the beginning of s and its bytes.
func wantFirst(s string) (tok api.Tok, whole string, e api.Errno) {
	if s == "" {
		return api.Tok{}, "", api.OK
	}
	if w := wordForm.FindString(s); w != "" {
		return aWord(0, 0, w), w, api.OK
	}
	if d := digitsForm.FindString(s); d != "" {
		if !numberForm.MatchString(d) {
			return api.Tok{}, "", api.ErrRange
		}
		n, _ := strconv.Atoi(d)
		return aNumber(0, 0, d, n), d, api.OK
	}
	if s[0] == '"' {
		q := quotedForm.FindString(s)
		if !nameForm.MatchString(q) || spaceForm.MatchString(q) {
			return api.Tok{}, "", api.ErrName
		}
		return aName(0, 0, strings.Trim(q, "\"")), q, api.OK
	}
	if m := markForm.FindString(s); m != "" {
		return aMark(0, 0, m), m, api.OK
	}
	return api.Tok{}, "", api.ErrChar
}

// wantScan counts every position from the beginning of the text.
func wantScan(s string) ([]api.Tok, api.Fault) {
	var list []api.Tok
	at := 0
	for {
		at += len(gapForm.FindString(s[at:]))
		line, col := runes.Place(s, at)
		tok, whole, e := wantFirst(s[at:])
		if e != api.OK {
			return nil, api.Fault{E: e, Line: line, Col: col}
		}
		tok.Line, tok.Col = line, col
		list = append(list, tok)
		if tok.Kind == 0 {
			return list, api.Fault{}
		}
		at += len(whole)
	}
}

func checkText(t *testing.T, what, s string) {
	t.Helper()
	want, fault := wantScan(s)
	check(t, what, s, want, fault)
	if t.Failed() {
		t.Fatalf("%s: of %q", what, s)
	}
}

func TestListedTexts(t *testing.T) {
	for _, c := range texts {
		checkText(t, c.what, c.s)
	}
	for _, c := range faulty {
		checkText(t, c.what, c.s)
	}
}

func TestShortTexts(t *testing.T) {
	for _, c := range []struct {
		alphabet string
		most     int
	}{
		{"<>=!-a \n", 6},
		{"0179a- \n", 6},
		{"\"aA0' -#\n,", 5},
		{"\"a\n#\xc3\xa9\x97\xff", 6},
		{"# \n\ta\xe2\x82\xac", 6},
		{"a1\";=!#\n \r\x00", 5},
	} {
		short.Each(c.alphabet, c.most, func(s string) {
			checkText(t, "a short text", s)
		})
	}
}

// pieces are what drawn texts are made of: many that make no fault, and some
// that do.
var (
	pieces = []string{
		"a", "power", "mine", "0", "7", "42", "\"A\"", "\"Wild Hunt\"", "\"Éé\"", "{", "}", "(", ")", ";", "+", "-", "*", "=", "<", ">", "<=", ">=", "!=",
		" ", " ", "\t", "\n", "\n", "# so\n", "#\n", "# \"é\" €\U0001f0a1\xff\n",
	}
	badPieces = []string{"!", "\"", "\"\"", "00", "100", ",", "A", "é", "€", "\U0001f0a1", "\xff", "\x00", "\r", "\xc3"}
)

// drawn returns a text of n pieces, of which about one of rare is bad.
func drawn(draws *rand.Rand, n, rare int) string {
	var s strings.Builder
	for range n {
		if draws.Intn(rare) == 0 {
			s.WriteString(badPieces[draws.Intn(len(badPieces))])
		} else {
			s.WriteString(pieces[draws.Intn(len(pieces))])
		}
	}
	return s.String()
}

func TestDrawnTexts(t *testing.T) {
	draws := rand.New(rand.NewSource(9))
	for n := range 200 {
		for _, rare := range []int{3, 20, 100, 1 << 30} {
			for range 5 {
				checkText(t, "a drawn text", drawn(draws, n, rare))
			}
		}
	}
}

// P9.2: the marks.

func checkMarks(t *testing.T, what string) {
	t.Helper()
	want := []string{"{", "}", "(", ")", ";", "+", "-", "*", "=", "<", ">", "<=", ">=", "!="}
	if got := Marks(); !slices.Equal(got, want) {
		t.Errorf("%s: Marks is %q, want %q", what, got, want)
	}
}

func TestMarks(t *testing.T) {
	checkMarks(t, "the marks")
	checkMarks(t, "the marks, asked again")
}

func TestMarksMayBeChanged(t *testing.T) {
	first := Marks()
	other := Marks()
	for i := range first {
		first[i] = "a"
	}
	first = append(first[:3], "$")
	if other[0] != "{" || other[3] != ")" {
		t.Errorf("with another result changed to %q, the marks are %q", first, other)
	}
	checkMarks(t, "the marks of before changed")
	check(t, "the marks changed", "a{<=$", nil, api.Fault{E: api.ErrChar, Line: 1, Col: 5})
	check(t, "the marks changed", "a{)<=", []api.Tok{aWord(1, 1, "a"), aMark(1, 2, "{"), aMark(1, 3, ")"), aMark(1, 4, "<="), theEnd(1, 6)}, api.Fault{})
}

func TestMarksAreTokens(t *testing.T) {
	for _, m := range Marks() {
		check(t, "one of the marks", m, []api.Tok{aMark(1, 1, m), theEnd(1, 1+len(m))}, api.Fault{})
	}
}

// P9.3: the order of tokens, and tokens separated by blanks.

// written returns the texts of the tokens of list, each followed by gap: of a
// name with its quotes.
func written(list []api.Tok, gap string) string {
	var s strings.Builder
	for _, tok := range list {
		if tok.Kind == 3 {
			s.WriteString("\"" + tok.Text + "\"")
		} else {
			s.WriteString(tok.Text)
		}
		s.WriteString(gap)
	}
	return s.String()
}

// unplaced returns list without positions.
func unplaced(list []api.Tok) []api.Tok {
	list = slices.Clone(list)
	for i := range list {
		list[i].Line, list[i].Col = 0, 0
	}
	return list
}

// increasing reports whether each token of list begins behind the one before it.
func increasing(list []api.Tok) bool {
	line, col := 0, 0
	for _, tok := range list {
		if tok.Line < line || tok.Line == line && tok.Col <= col {
			return false
		}
		line, col = tok.Line, tok.Col
	}
	return true
}

// checkSeparated checks what P9.3 says of a text that has tokens.
func checkSeparated(t *testing.T, what, s string) {
	t.Helper()
	list, fault := Scan(s)
	if fault != (api.Fault{}) {
		return
	}
	if !increasing(list) {
		t.Fatalf("%s: the tokens of %q are in no increasing order: %+v", what, s, list)
	}
	for _, gap := range []string{" ", "\t", "\n", " \n\t "} {
		again := written(list, gap)
		got, fault := Scan(gap + again)
		if !slices.Equal(unplaced(got), unplaced(list)) || fault != (api.Fault{}) {
			t.Fatalf("%s: the tokens of %q are %+v, separated by %q they are %+v, with the fault %v", what, s, list, gap, got, fault)
		}
		if !increasing(got) {
			t.Fatalf("%s: the tokens of %q are in no increasing order: %+v", what, again, got)
		}
	}
}

func TestTokensSeparatedByBlanks(t *testing.T) {
	draws := rand.New(rand.NewSource(93))
	for _, c := range texts {
		checkSeparated(t, c.what, c.s)
	}
	for n := range 300 {
		checkSeparated(t, "a drawn text", drawn(draws, n, 1<<30))
	}
	short.Each("a0\"=<-# \n", 5, func(s string) {
		checkSeparated(t, "a short text", s)
	})
}

// R3 and R4: memory, and what depends on earlier calls.

func TestTokensAreNewMemory(t *testing.T) {
	for _, c := range texts {
		first, _ := Scan(c.s)
		second, _ := Scan(c.s)
		for i := range first {
			first[i] = api.Tok{Kind: 9, Text: "changed afterwards"}
		}
		want := append(slices.Clone(c.tokens), theEnd(c.line, c.col))
		if !slices.Equal(second, want) {
			t.Errorf("%s: with another result changed, the tokens are %+v, want %+v", c.what, second, want)
		}
		check(t, c.what+", a result of before changed", c.s, want, api.Fault{})
	}
}

func TestFaultsLeaveNothingBehind(t *testing.T) {
	for _, f := range faulty {
		Scan(f.s)
		check(t, "after "+f.what, "lane 2", []api.Tok{aWord(1, 1, "lane"), aNumber(1, 6, "2", 2), theEnd(1, 7)}, api.Fault{})
	}
}
