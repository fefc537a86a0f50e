package runes

import (
	"math"
	"strings"
	"testing"
	"unicode"
	"unicode/utf8"

	"trident/api"
	"trident/internal/short"
)

// samples are strings with runes of every length, line ends, and bytes that
// are no UTF-8: alone, cut off, overlong, surrogates, above 10ffff.
var samples = []string{
	"", "a", "ab\n\u00e9c", "\n", "\n\n", "a\n", "\na", "a\r\nb", "\u00e9", "\u20ac\n\u20ac", "\U0001f0a1x\n\U0001f0a1", "\x00\n\x00", "\ufffd\n\ufffd",
	"\x80", "\xff\n\xfe", "a\xc3", "\xc3\n\xa9", "\xe2\x82", "\xe2\x82\n\xac", "\xf0\x9f\x82", "\xc0\x80", "\xe0\x80\x8a", "\xed\xa0\x80", "\xf4\x90\x80\x80\n",
	"\u00e9\xa9\u20ac\x82\x82\n\xac", "Name\ncost 3\n\treveal {\n}\n", "\u2028\u0085\v\f\r",
}

// outside are indices that no string of samples has.
var outside = []int{math.MinInt, math.MinInt32, -2, -1, 1000, math.MaxInt32, math.MaxInt}

// P2.1: the rune at the index and its length.

func TestAt(t *testing.T) {
	for _, c := range []struct {
		s    string
		at   int
		r    rune
		n    int
		what string
	}{
		{"abc", 0, 'a', 1, "the first rune"},
		{"abc", 1, 'b', 1, "a rune in the middle"},
		{"abc", 2, 'c', 1, "the last rune"},
		{"ab\n\u00e9c", 2, '\n', 1, "a line end"},
		{"ab\n\u00e9c", 3, 0xe9, 2, "a rune of two bytes"},
		{"ab\n\u00e9c", 4, 0xfffd, 1, "inside a rune of two bytes"},
		{"ab\n\u00e9c", 5, 'c', 1, "after a rune of two bytes"},
		{"\u20ac", 0, 0x20ac, 3, "a rune of three bytes"},
		{"\u20ac", 1, 0xfffd, 1, "inside a rune of three bytes"},
		{"\u20ac", 2, 0xfffd, 1, "the last byte of a rune of three bytes"},
		{"\U0001f0a1x", 0, 0x1f0a1, 4, "a rune of four bytes"},
		{"\U0001f0a1x", 3, 0xfffd, 1, "the last byte of a rune of four bytes"},
		{"\U0001f0a1x", 4, 'x', 1, "after a rune of four bytes"},
		{"\U0010ffff", 0, 0x10ffff, 4, "the last rune of all"},
		{"\x00", 0, 0, 1, "the rune 0"},
		{"\ufffd", 0, 0xfffd, 3, "the rune fffd, encoded"},
		{"\ufffd", 1, 0xfffd, 1, "inside the rune fffd"},
		{"\xff", 0, 0xfffd, 1, "a byte that begins no encoding"},
		{"\xa9\u00e9", 0, 0xfffd, 1, "a byte that goes on"},
		{"\xa9\u00e9", 1, 0xe9, 2, "after a byte that goes on"},
		{"a\xc3", 1, 0xfffd, 1, "an encoding cut off by the end"},
		{"\xe2\x82", 0, 0xfffd, 1, "three bytes cut off by the end"},
		{"\xe2\x82a", 0, 0xfffd, 1, "three bytes cut off by a letter"},
		{"\xe2\x82a", 2, 'a', 1, "the letter after them"},
		{"\xc0\x80", 0, 0xfffd, 1, "an overlong encoding"},
		{"\xed\xa0\x80", 0, 0xfffd, 1, "a surrogate"},
		{"\xf4\x90\x80\x80", 0, 0xfffd, 1, "a number above 10ffff"},
	} {
		if r, n := At(c.s, c.at); r != c.r || n != c.n {
			t.Errorf("%s: At(%q, %d) is %x, %d, want %x, %d", c.what, c.s, c.at, r, n, c.r, c.n)
		}
	}
}

func TestAtOutside(t *testing.T) {
	for _, s := range samples {
		for _, at := range append([]int{len(s), len(s) + 1}, outside...) {
			if r, n := At(s, at); r != 0 || n != 0 {
				t.Errorf("At(%q, %d) is %x, %d, want 0, 0", s, at, r, n)
			}
		}
	}
}

func checkAt(t *testing.T, s string) {
	t.Helper()
	for at := range len(s) {
		r, n := At(s, at)
		if wantRune, wantSize := utf8.DecodeRuneInString(s[at:]); r != wantRune || n != wantSize {
			t.Errorf("At(%q, %d) is %x, %d, want %x, %d", s, at, r, n, wantRune, wantSize)
		}
	}
}

func TestAtOfAllBytes(t *testing.T) {
	for _, s := range samples {
		checkAt(t, s)
	}
	short.Each("\n a\x7f\x80\x82\xa9\xbf\xc0\xc3\xe2\xed\xf0\xf4\xff", 4, func(s string) {
		checkAt(t, s)
	})
}

func TestAtOfAllRunes(t *testing.T) {
	for want := rune(0); want <= unicode.MaxRune; want++ {
		s := string(want)
		r, n := At(s, 0)
		if 0xd800 <= want && want <= 0xdfff {
			// Go encodes a surrogate as fffd.
			if r != 0xfffd || n != 3 {
				t.Fatalf("At of fffd, encoded for %x, is %x, %d", want, r, n)
			}
		} else if r != want || n != len(s) {
			t.Fatalf("At of the encoding of %x is %x, %d", want, r, n)
		}
	}
}

// P2.1: the number of runes.

func TestCount(t *testing.T) {
	for _, c := range []struct {
		s    string
		want int
	}{
		{"", 0}, {"a", 1}, {"ab\n\u00e9c", 5}, {"\u20ac\U0001f0a1\u00e9a", 4}, {"\x00\x00", 2}, {"\ufffd", 1}, {"\n\n\n", 3},
		{"\xff\xfe", 2}, {"\xe2\x82", 2}, {"\xe2\x82\xac", 1}, {"\xe2\x82\n\xac", 4}, {"a\xc3", 2}, {"\u00e9\xa9", 2}, {"\xc0\x80", 2}, {"\xed\xa0\x80", 3}, {"\xf4\x90\x80\x80", 4},
		{strings.Repeat("\u00e9", 70000), 70000}, {strings.Repeat("\xff", 70000), 70000},
	} {
		if got := Count(c.s); got != c.want {
			t.Errorf("Count(%.20q) is %d, want %d", c.s, got, c.want)
		}
	}
	short.Each("\na\x80\x82\xac\xc3\xe2\xed\xf0\xff", 4, func(s string) {
		if got, want := Count(s), utf8.RuneCountInString(s); got != want {
			t.Errorf("Count(%q) is %d, want %d", s, got, want)
		}
	})
}

// P2.1: the line and the column of an index.

func TestPlace(t *testing.T) {
	for _, c := range []struct {
		s             string
		at, line, col int
		what          string
	}{
		{"ab\n\u00e9c", 5, 2, 2, "the chapter's example"},
		{"ab\n\u00e9c", 0, 1, 1, "the first rune"},
		{"ab\n\u00e9c", 1, 1, 2, "the second rune"},
		{"ab\n\u00e9c", 2, 1, 3, "the line end is in its line"},
		{"ab\n\u00e9c", 3, 2, 1, "after the line end"},
		{"ab\n\u00e9c", 4, 2, 2, "inside a rune: it begins before"},
		{"ab\n\u00e9c", 6, 2, 3, "the end of the string"},
		{"ab\n\u00e9c", 7, 2, 3, "one beyond the end"},
		{"ab\n\u00e9c", math.MaxInt, 2, 3, "far beyond the end"},
		{"ab\n\u00e9c", -1, 1, 1, "before the string"},
		{"\nab", math.MinInt, 1, 1, "far before the string"},
		{"\nab", 0, 1, 1, "a line end at the beginning"},
		{"\nab", 1, 2, 1, "after it"},
		{"", 0, 1, 1, "the empty string"},
		{"", 1, 1, 1, "beyond the empty string"},
		{"", -1, 1, 1, "before the empty string"},
		{"a\n", 2, 2, 1, "the end after a line end"},
		{"a\n", 3, 2, 1, "beyond the end after a line end"},
		{"a\n\n\nb", 2, 2, 1, "an empty line"},
		{"a\n\n\nb", 3, 3, 1, "the next empty line"},
		{"a\n\n\nb", 4, 4, 1, "after empty lines"},
		{"a\n\n\nb", 5, 4, 2, "the end after empty lines"},
		{"a\r\nb", 2, 1, 3, "a carriage return is no line end"},
		{"a\r\nb", 3, 2, 1, "only byte 10 is one"},
		{"a\u2028b\u0085c\vd", 10, 1, 8, "no other rune is one"},
		{"\u20acb", 1, 1, 2, "the second byte of three"},
		{"\u20acb", 2, 1, 2, "the third byte of three"},
		{"\u20acb", 3, 1, 2, "after three bytes"},
		{"\U0001f0a1\nb", 3, 1, 2, "the last byte of four"},
		{"\U0001f0a1\nb", 5, 2, 1, "the line after a rune of four bytes"},
		{"\xff\xfe\xfd", 2, 1, 3, "bytes that are no UTF-8 are a rune each"},
		{"\xff\xfe\xfd", 3, 1, 4, "the end after them"},
		{"\xe2\x82\nb", 2, 1, 3, "a line end that cuts an encoding off"},
		{"\xe2\x82\nb", 3, 2, 1, "after it"},
		{"a\xc3", 2, 1, 3, "the end after an encoding cut off"},
	} {
		if line, col := Place(c.s, c.at); line != c.line || col != c.col {
			t.Errorf("%s: Place(%q, %d) is line %d, column %d, want %d, %d", c.what, c.s, c.at, line, col, c.line, c.col)
		}
	}
}

// placeByLines finds the line by the bytes 10 before at, and then counts the
// runes of this line alone.
func placeByLines(s string, at int) (line, col int) {
	at = max(0, min(at, len(s)))
	begin := strings.LastIndexByte(s[:at], 10) + 1
	line, col = strings.Count(s[:begin], "\n")+1, 1
	for i := begin; i < at; col++ {
		_, n := utf8.DecodeRuneInString(s[i:])
		i += n
	}
	return line, col
}

func checkPlace(t *testing.T, s string, at int) {
	t.Helper()
	line, col := Place(s, at)
	if wantLine, wantCol := placeByLines(s, at); line != wantLine || col != wantCol {
		t.Errorf("Place(%q, %d) is line %d, column %d, want %d, %d", s, at, line, col, wantLine, wantCol)
	}
}

func TestPlaceOfEveryIndex(t *testing.T) {
	for _, s := range samples {
		for at := -2; at <= len(s)+2; at++ {
			checkPlace(t, s, at)
		}
		for _, at := range outside {
			checkPlace(t, s, at)
		}
	}
	short.Each("\na\x82\xac\xc3\xe2\xff", 5, func(s string) {
		for at := -1; at <= len(s)+1; at++ {
			checkPlace(t, s, at)
		}
	})
}

// P2.2: the kinds of runes.

func TestKindsAtTheirBounds(t *testing.T) {
	for _, c := range []struct {
		r                           rune
		small, letter, digit, blank bool
	}{
		{'a' - 1, false, false, false, false}, {'a', true, true, false, false}, {'m', true, true, false, false}, {'z', true, true, false, false}, {'z' + 1, false, false, false, false},
		{'A' - 1, false, false, false, false}, {'A', false, true, false, false}, {'M', false, true, false, false}, {'Z', false, true, false, false}, {'Z' + 1, false, false, false, false},
		{0xbf, false, false, false, false}, {0xc0, false, true, false, false}, {0xd6, false, true, false, false}, {0xd7, false, false, false, false}, {0xd8, false, true, false, false},
		{0xf6, false, true, false, false}, {0xf7, false, false, false, false}, {0xf8, false, true, false, false}, {0x100, false, true, false, false}, {0x24f, false, true, false, false}, {0x250, false, false, false, false},
		{'0' - 1, false, false, false, false}, {'0', false, false, true, false}, {'5', false, false, true, false}, {'9', false, false, true, false}, {'9' + 1, false, false, false, false},
		{8, false, false, false, false}, {9, false, false, false, true}, {10, false, false, false, true}, {11, false, false, false, false}, {13, false, false, false, false},
		{0x1f, false, false, false, false}, {0x20, false, false, false, true}, {0x21, false, false, false, false}, {0x85, false, false, false, false}, {0xa0, false, false, false, false},
		{0xaa, false, false, false, false}, {0xb5, false, false, false, false}, {0xba, false, false, false, false}, {0xb2, false, false, false, false},
		{0x3b1, false, false, false, false}, {0x661, false, false, false, false}, {0x2003, false, false, false, false}, {0xff11, false, false, false, false}, {0xff41, false, false, false, false},
		{0, false, false, false, false}, {'_', false, false, false, false}, {0xfffd, false, false, false, false}, {unicode.MaxRune, false, false, false, false}, {unicode.MaxRune + 1, false, false, false, false},
		{-1, false, false, false, false}, {-'a', false, false, false, false}, {math.MinInt32, false, false, false, false}, {math.MaxInt32, false, false, false, false},
		// What would be a letter, a digit or a space if only its lower bits counted.
		{0x10000 + 'a', false, false, false, false}, {0x10000 + '5', false, false, false, false}, {0x10000 + 0x20, false, false, false, false},
	} {
		if got := Small(c.r); got != c.small {
			t.Errorf("Small(%x) is %t", c.r, got)
		}
		if got := Letter(c.r); got != c.letter {
			t.Errorf("Letter(%x) is %t", c.r, got)
		}
		if got := Digit(c.r); got != c.digit {
			t.Errorf("Digit(%x) is %t", c.r, got)
		}
		if got := Blank(c.r); got != c.blank {
			t.Errorf("Blank(%x) is %t", c.r, got)
		}
	}
}

func TestKindsOfAllRunes(t *testing.T) {
	const small = "abcdefghijklmnopqrstuvwxyz"
	letters := small + strings.ToUpper(small)
	for r := rune(0xc0); r <= 0x24f; r++ {
		// From c0 to 24f Unicode has letters, and the two signs that are none.
		if unicode.IsLetter(r) {
			letters += string(r)
		}
	}
	if n := utf8.RuneCountInString(letters); n != 26+26+(0x24f-0xc0+1)-2 {
		t.Fatalf("there are %d letters to check with", n)
	}
	for r := rune(-300); r <= unicode.MaxRune+300; r++ {
		// IndexRune finds fffd for what is no rune at all.
		is := func(s string) bool { return utf8.ValidRune(r) && strings.IndexRune(s, r) >= 0 }
		if Small(r) != is(small) || Letter(r) != is(letters) || Digit(r) != is("0123456789") || Blank(r) != is(" \t\n") {
			t.Fatalf("%x: Small %t, Letter %t, Digit %t, Blank %t", r, Small(r), Letter(r), Digit(r), Blank(r))
		}
	}
}

// P2.2: names.

func TestName(t *testing.T) {
	for _, c := range []struct {
		s    string
		want bool
		what string
	}{
		{"", false, "no rune"},
		{"a", true, "one rune"},
		{"\u00e9", true, "one rune of two bytes"},
		{"7", true, "a digit alone"},
		{"'", true, "an apostrophe alone"},
		{"-", true, "a hyphen alone"},
		{" ", false, "a space alone"},
		{"   ", false, "spaces alone"},
		{"Wild Hunt", true, "a space inside"},
		{"a  b", true, "two spaces inside"},
		{" ab", false, "a space at the beginning"},
		{"ab ", false, "a space at the end"},
		{" ab ", false, "spaces at both ends"},
		{"'ab-", true, "an apostrophe and a hyphen at the ends"},
		{"Owl's 2nd-Nest", true, "every kind of rune"},
		{"\u00c5se \u024e\u024f", true, "letters of the Latin ranges"},
		{strings.Repeat("a", api.MaxName-1), true, "23 runes"},
		{strings.Repeat("a", api.MaxName), true, "24 runes"},
		{strings.Repeat("a", api.MaxName+1), false, "25 runes"},
		{strings.Repeat("\u00e9", api.MaxName), true, "24 runes of two bytes"},
		{strings.Repeat("\u00e9", api.MaxName+1), false, "25 runes of two bytes"},
		{strings.Repeat("a", api.MaxName-1) + " ", false, "24 runes, the last a space"},
		{strings.Repeat("a", api.MaxName) + " ", false, "25 runes, the last a space"},
		{"a" + strings.Repeat(" ", api.MaxName-2) + "b", true, "24 runes, most of them spaces"},
		{strings.Repeat("a", api.MaxText*4), false, "very many runes"},
		{"a\tb", false, "a tab"},
		{"a\nb", false, "a line end"},
		{"ab\n", false, "a line end at the end"},
		{"a\u00a0b", false, "a space that does not break"},
		{"a\u00d7b", false, "the sign d7"},
		{"a\u00f7b", false, "the sign f7"},
		{"a\u0250", false, "the rune after the letters"},
		{"a\u00bf", false, "the rune before c0"},
		{"a\u2019b", false, "another apostrophe"},
		{"a\u2013b", false, "a dash"},
		{"a.b", false, "a dot"},
		{"a_b", false, "a low line"},
		{"a\"b", false, "a quote"},
		{"a\x00", false, "the rune 0"},
		{"\u00e9\xa9", false, "a byte that goes on"},
		{"a\xc3", false, "an encoding cut off"},
		{"\xff", false, "a byte that is no UTF-8"},
		{"\xe9", false, "the byte e9 is not the rune e9"},
		{"\ufffd", false, "the rune fffd"},
	} {
		if got := Name(c.s); got != c.want {
			t.Errorf("%s: Name(%.40q) is %t", c.what, c.s, got)
		}
	}
}

func TestNameOfEachRune(t *testing.T) {
	for r := rune(0); r <= unicode.MaxRune; r++ {
		inside := Letter(r) || Digit(r) || r == 0x20 || r == 0x27 || r == 0x2d
		s := string(r)
		if got := Name("a" + s + "b"); got != inside {
			t.Fatalf("Name with %x inside is %t", r, got)
		}
		if atEnds := inside && r != 0x20; Name(s) != atEnds || Name(s+"b") != atEnds || Name("a"+s) != atEnds {
			t.Fatalf("Name with %x alone, first, last is %t, %t, %t", r, Name(s), Name(s+"b"), Name("a"+s))
		}
	}
}

// P2.3: the bytes of the runes together are the string, and each rune moves
// the place on.
func checkSteps(t *testing.T, s string) {
	t.Helper()
	count, at, line, col := 0, 0, 1, 1
	for at < len(s) {
		if gotLine, gotCol := Place(s, at); gotLine != line || gotCol != col {
			t.Fatalf("Place(%q, %d) is line %d, column %d, want %d, %d", s, at, gotLine, gotCol, line, col)
		}
		r, n := At(s, at)
		if n < 1 || n > len(s)-at || r != 0xfffd && string(r) != s[at:at+n] {
			t.Fatalf("At(%q, %d) is %x, %d, not the bytes of the string", s, at, r, n)
		}
		col++
		if r == '\n' {
			line, col = line+1, 1
		}
		at += n
		count++
	}
	if at != len(s) || count != Count(s) {
		t.Fatalf("the runes of %q end at %d and are %d, Count says %d", s, at, count, Count(s))
	}
	if gotLine, gotCol := Place(s, at); gotLine != line || gotCol != col {
		t.Fatalf("Place(%q, %d), the end, is line %d, column %d, want %d, %d", s, at, gotLine, gotCol, line, col)
	}
}

func TestRunesTogetherAreTheString(t *testing.T) {
	for _, s := range samples {
		checkSteps(t, s)
	}
	short.Each("\na\x82\xac\xc3\xe2\xed\xf0\xff", 5, func(s string) {
		checkSteps(t, s)
	})
}
