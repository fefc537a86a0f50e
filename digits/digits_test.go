package digits

import (
	"math"
	"math/rand"
	"regexp"
	"slices"
	"strconv"
	"strings"
	"testing"

	"trident/internal/short"
)

// edges are numbers around every place where their texts or reading them
// changes: signs, every number of digits, the bounds of 9 digits and of ints.
func edges() []int {
	list := []int{0, 1, 9, 42, 305, 123456789, 987654321, math.MaxInt32, math.MinInt32, math.MaxInt - 1, math.MaxInt, math.MinInt, math.MinInt + 1}
	for power := 10; ; power *= 10 {
		list = append(list, power-1, power, power+1, 7*(power/10))
		if power > math.MaxInt/10 {
			break
		}
	}
	for _, n := range list {
		if n > 0 {
			list = append(list, -n)
		}
	}
	return list
}

// readable reports whether n has at most 9 digits.
func readable(n int) bool {
	return -999999999 <= n && n <= 999999999
}

// P3.1: the text of a number.

func TestPut(t *testing.T) {
	for _, c := range []struct {
		n    int
		want string
	}{
		{0, "0"}, {1, "1"}, {7, "7"}, {9, "9"}, {10, "10"}, {42, "42"}, {99, "99"}, {100, "100"}, {305, "305"}, {1000000, "1000000"}, {123456789, "123456789"},
		{-1, "-1"}, {-9, "-9"}, {-10, "-10"}, {-42, "-42"}, {-305, "-305"}, {-100, "-100"}, {-999, "-999"}, {-987654321, "-987654321"},
		{999999999, "999999999"}, {1000000000, "1000000000"}, {-999999999, "-999999999"}, {-1000000000, "-1000000000"},
		{math.MaxInt32, "2147483647"}, {math.MinInt32, "-2147483648"},
	} {
		if got := Put(c.n); got != c.want {
			t.Errorf("Put(%d) is %q, want %q", c.n, got, c.want)
		}
	}
}

func TestPutOfTheLeastAndGreatest(t *testing.T) {
	if strconv.IntSize != 64 {
		t.Skip("ints are not 64 bits long")
	}
	if got := Put(math.MinInt); got != "-9223372036854775808" {
		t.Errorf("Put of the least int is %q", got)
	}
	if got := Put(math.MaxInt); got != "9223372036854775807" {
		t.Errorf("Put of the greatest int is %q", got)
	}
}

func TestPutAsTheLibraryWrites(t *testing.T) {
	check := func(n int) {
		if got, want := Put(n), strconv.Itoa(n); got != want {
			t.Errorf("Put is %q, want %q", got, want)
		}
	}
	for n := -12000; n <= 12000; n++ {
		check(n)
	}
	for _, n := range edges() {
		check(n)
	}
	draws := rand.New(rand.NewSource(3))
	for range 20000 {
		check(int(draws.Uint64()) >> draws.Intn(strconv.IntSize))
	}
}

// P3.1: Take.

func TestTake(t *testing.T) {
	for _, c := range []struct {
		s             string
		at, most      int
		wantN, wantAt int
		wantOK        bool
		what          string
	}{
		{"x07", 1, 9, 0, 0, false, "the chapter's example"},
		{"x07", 2, 9, 7, 3, true, "from after the leading zero"},
		{"x7", 1, 9, 7, 2, true, "one digit"},
		{"x7", 0, 9, 0, 0, false, "a letter at the index"},
		{"cost 42 power", 5, 9, 42, 7, true, "a number in the middle"},
		{"cost 42 power", 6, 9, 2, 7, true, "from inside a number: the digits before do not count"},
		{"cost 42 power", 4, 9, 0, 0, false, "a space at the index"},
		{"0", 0, 9, 0, 1, true, "0 alone"},
		{"0x", 0, 9, 0, 1, true, "0 before a letter"},
		{"0,0", 0, 1, 0, 1, true, "0 before a comma"},
		{"00", 0, 9, 0, 0, false, "two zeros"},
		{"00", 1, 9, 0, 2, true, "the second of two zeros"},
		{"007", 0, 9, 0, 0, false, "leading zeros"},
		{"000", 0, 1, 0, 0, false, "leading zeros, more than most"},
		{"10", 0, 9, 10, 2, true, "a zero at the end"},
		{"100200", 0, 9, 100200, 6, true, "zeros inside"},
		{"-5", 0, 9, 0, 0, false, "a minus is no digit"},
		{"-5", 1, 9, 5, 2, true, "after a minus"},
		{"+5", 0, 9, 0, 0, false, "a plus is no digit"},
		{"5-6", 0, 9, 5, 1, true, "before a minus"},
		{"5.6", 0, 9, 5, 1, true, "before a point"},
		{"1 2", 0, 9, 1, 1, true, "before a space"},
		{"1_2", 0, 9, 1, 1, true, "before an underline"},
		{"99", 0, 2, 99, 2, true, "as many digits as most"},
		{"100", 0, 2, 0, 0, false, "more digits than most"},
		{"100", 0, 3, 100, 3, true, "most is enough"},
		{"100x", 0, 2, 0, 0, false, "more digits than most, before a letter"},
		{"7", 0, 1, 7, 1, true, "one digit, most 1"},
		{"7", 0, 0, 0, 0, false, "most 0"},
		{"0", 0, 0, 0, 0, false, "0 with most 0"},
		{"7", 0, -1, 0, 0, false, "most below 0"},
		{"7", 0, math.MinInt, 0, 0, false, "the least most"},
		{"7", 0, math.MaxInt, 7, 1, true, "the greatest most"},
		{"123456789", 0, 9, 123456789, 9, true, "9 digits"},
		{"999999999;", 0, 9, 999999999, 9, true, "the greatest that is read"},
		{"999999999", 0, 8, 0, 0, false, "9 digits, most 8"},
		{"123456789", 0, math.MaxInt, 123456789, 9, true, "9 digits, the greatest most"},
		{"1234567890", 0, 9, 0, 0, false, "10 digits, most 9"},
		{"1234567890", 0, 10, 0, 0, false, "10 digits, most 10"},
		{"1000000000", 0, math.MaxInt, 0, 0, false, "10 digits, the greatest most"},
		{"0123456789", 0, 10, 0, 0, false, "10 digits with a leading zero"},
		{"1234567890", 1, 9, 234567890, 10, true, "the last 9 of 10 digits"},
		{"18446744073709551617", 0, math.MaxInt, 0, 0, false, "what an int of 64 bits would take for 1"},
		{"", 0, 9, 0, 0, false, "the empty string"},
		{"", -1, 9, 0, 0, false, "before the empty string"},
		{"", 1, 9, 0, 0, false, "beyond the empty string"},
		{"42", 2, 9, 0, 0, false, "the end of the string"},
		{"42", 3, 9, 0, 0, false, "beyond the end"},
		{"42", -1, 9, 0, 0, false, "before the string"},
		{"42", math.MaxInt, 9, 0, 0, false, "far beyond the end"},
		{"42", math.MinInt, 9, 0, 0, false, "far before the string"},
		{"x/", 1, 9, 0, 0, false, "the byte before 0"},
		{"x:", 1, 9, 0, 0, false, "the byte after 9"},
		{"3/", 0, 9, 3, 1, true, "before the byte before 0"},
		{"3:", 0, 9, 3, 1, true, "before the byte after 9"},
		{"\u0663", 0, 9, 0, 0, false, "a digit of another script"},
		{"\uff13", 0, 9, 0, 0, false, "a wide digit"},
		{"3\u0663", 0, 9, 3, 1, true, "before a digit of another script"},
		{"\xff3\xff", 0, 9, 0, 0, false, "a byte that is no UTF-8"},
		{"\xff3\xff", 1, 9, 3, 2, true, "between bytes that are no UTF-8"},
		{"\u00e95", 1, 9, 0, 0, false, "inside a rune"},
		{"\u00e95", 2, 9, 5, 3, true, "after a rune of two bytes"},
	} {
		n, end, ok := Take(c.s, c.at, c.most)
		if n != c.wantN || end != c.wantAt || ok != c.wantOK {
			t.Errorf("%s: Take(%q, %d, %d) is %d, %d, %t, want %d, %d, %t", c.what, c.s, c.at, c.most, n, end, ok, c.wantN, c.wantAt, c.wantOK)
		}
	}
}

// takeByPattern finds the digits by a pattern, and reads them by the library.
func takeByPattern(s string, at, most int) (n, end int, ok bool) {
	if at < 0 || at >= len(s) {
		return 0, 0, false
	}
	text := firstDigits.FindString(s[at:])
	if !wholeNumber.MatchString(text) || len(text) > most {
		return 0, 0, false
	}
	n, err := strconv.Atoi(text)
	return n, at + len(text), err == nil
}

var (
	firstDigits = regexp.MustCompile(`\A[0-9]*`)
	wholeNumber = regexp.MustCompile(`\A(0|[1-9][0-9]{0,8})\z`)
	anyNumber   = regexp.MustCompile(`\A(0|-?[1-9][0-9]{0,8})\z`)
)

func checkTake(t *testing.T, s string, at, most int) {
	t.Helper()
	n, end, ok := Take(s, at, most)
	if wantN, wantEnd, wantOK := takeByPattern(s, at, most); n != wantN || end != wantEnd || ok != wantOK {
		t.Fatalf("Take(%q, %d, %d) is %d, %d, %t, want %d, %d, %t", s, at, most, n, end, ok, wantN, wantEnd, wantOK)
	}
}

func TestTakeOfEveryIndex(t *testing.T) {
	short.Each("019-,x", 5, func(s string) {
		for at := -1; at <= len(s)+1; at++ {
			for _, most := range []int{-1, 0, 1, 2, 3, 9} {
				checkTake(t, s, at, most)
			}
		}
	})
}

func TestTakeOfEveryNumberOfDigits(t *testing.T) {
	for _, before := range []string{"", "x", "-", "\u00e9"} {
		for _, first := range []string{"", "0", "1", "9"} {
			for count := range 25 {
				for _, after := range []string{"", ",", "x", "\xff"} {
					s := before + first + strings.Repeat("7", count) + after
					for most := -1; most <= 25; most++ {
						checkTake(t, s, len(before), most)
					}
					checkTake(t, s, len(before), math.MaxInt)
				}
			}
		}
	}
}

// P3.2: Parse.

func TestParse(t *testing.T) {
	for _, c := range []struct {
		s    string
		want int
	}{
		{"0", 0}, {"1", 1}, {"9", 9}, {"10", 10}, {"42", 42}, {"305", 305}, {"-1", -1}, {"-9", -9}, {"-10", -10}, {"-42", -42}, {"-999", -999},
		{"123456789", 123456789}, {"-123456789", -123456789}, {"999999999", 999999999}, {"-999999999", -999999999},
	} {
		if got, ok := Parse(c.s); got != c.want || !ok {
			t.Errorf("Parse(%q) is %d, %t, want %d", c.s, got, ok, c.want)
		}
	}
}

func TestParseOfNoNumber(t *testing.T) {
	for _, s := range []string{
		"", "-", "--", "--1", "-0", "-00", "+0", "+1", "00", "01", "007", "-01", "-007", "- 1", "-+1", "+-1", "1-", "1-2",
		" 1", "1 ", "\t1", "1\n", "1,", ",1", "1,2", ",", "x", "1x", "x1", "0x1", "1e3", "1_000", "1.0", "1.", ".1", "0b1", "0-", "0 ",
		"1000000000", "-1000000000", "9999999999", "-9999999999", "0999999999", "2147483648", "4294967297", "18446744073709551617", "-18446744073709551617",
		"9223372036854775807", "-9223372036854775808", strings.Repeat("1", 1000), strings.Repeat("0", 1000), "-" + strings.Repeat("0", 1000),
		"\u0663", "\uff11", "\u22121", "1\u0663", "1\x00", "\x001", "\xff", "1\xff", "\xff1", "\u00b2", "/", ":",
	} {
		if got, ok := Parse(s); got != 0 || ok {
			t.Errorf("Parse(%q) is %d, %t, want 0, false", s, got, ok)
		}
	}
}

// P3.2: List and Unlist.

func TestList(t *testing.T) {
	for _, c := range []struct {
		l    []int
		want string
	}{
		{nil, ""}, {[]int{}, ""}, {[]int{0}, "0"}, {[]int{7}, "7"}, {[]int{-7}, "-7"}, {[]int{3, -1, 0}, "3,-1,0"}, {[]int{0, 0, 0}, "0,0,0"},
		{[]int{1, 2}, "1,2"}, {[]int{2, 1}, "2,1"}, {[]int{-10, 10, -10}, "-10,10,-10"}, {[]int{999999999, -999999999}, "999999999,-999999999"},
		{[]int{math.MaxInt32, 1000000000, math.MinInt32}, "2147483647,1000000000,-2147483648"},
	} {
		if got := List(c.l); got != c.want {
			t.Errorf("List of %v is %q, want %q", c.l, got, c.want)
		}
	}
	if got, want := List([]int{math.MinInt, math.MaxInt}), strconv.Itoa(math.MinInt)+","+strconv.Itoa(math.MaxInt); got != want {
		t.Errorf("List of the least and the greatest int is %q, want %q", got, want)
	}
}

func TestUnlist(t *testing.T) {
	for _, c := range []struct {
		s    string
		want []int
	}{
		{"", nil}, {"0", []int{0}}, {"7", []int{7}}, {"-7", []int{-7}}, {"3,-1,0", []int{3, -1, 0}}, {"0,0,0", []int{0, 0, 0}},
		{"1,2", []int{1, 2}}, {"2,1", []int{2, 1}}, {"1,1,1,1", []int{1, 1, 1, 1}}, {"999999999,-999999999", []int{999999999, -999999999}},
	} {
		if got, ok := Unlist(c.s); !slices.Equal(got, c.want) || !ok {
			t.Errorf("Unlist(%q) is %v, %t, want %v", c.s, got, ok, c.want)
		}
	}
}

func TestUnlistOfNoList(t *testing.T) {
	for _, s := range []string{
		",", ",,", ",1", "1,", "1,,2", "1,2,", ",1,2", "1,2,,", "1,,", ",,1", "-", "-,1", "1,-", "-0", "1,-0", "-0,1", "00", "1,01", "01,1", "1,+2",
		"1, 2", "1 ,2", " 1,2", "1,2 ", "1;2", "1 2", "1.2", "1,2\n", "\n", " ", "x", "1,x", "x,1", "[1,2]", "1,2,3x",
		"1000000000", "-1000000000", "1,1000000000", "1000000000,1", "1,2147483648,3", "18446744073709551617,1", "1\x00,2", "1,\xff", "\uff0c", "1\uff0c2",
	} {
		if got, ok := Unlist(s); len(got) != 0 || ok {
			t.Errorf("Unlist(%q) is %v, %t, want no numbers and false", s, got, ok)
		}
	}
}

// unlistByPattern splits the string by the library and reads each part.
func unlistByPattern(s string) ([]int, bool) {
	var l []int
	if s == "" {
		return l, true
	}
	for _, part := range strings.Split(s, ",") {
		if !anyNumber.MatchString(part) {
			return nil, false
		}
		n, _ := strconv.Atoi(part)
		l = append(l, n)
	}
	return l, true
}

func TestShortStringsAreReadAsThePatternsSay(t *testing.T) {
	short.Each("019-,x ", 6, func(s string) {
		wantN, _ := strconv.Atoi(s)
		wantOK := anyNumber.MatchString(s)
		if !wantOK {
			wantN = 0
		}
		if n, ok := Parse(s); n != wantN || ok != wantOK {
			t.Fatalf("Parse(%q) is %d, %t, want %d, %t", s, n, ok, wantN, wantOK)
		}
		want, wantOK := unlistByPattern(s)
		if l, ok := Unlist(s); !slices.Equal(l, want) || ok != wantOK {
			t.Fatalf("Unlist(%q) is %v, %t, want %v, %t", s, l, ok, want, wantOK)
		}
	})
}

// P3.3: what is written is read again, and what is read is what is written.

func checkNumber(t *testing.T, n int) {
	t.Helper()
	got, ok := Parse(Put(n))
	if !readable(n) {
		if got != 0 || ok {
			t.Errorf("Parse of the text of %d is %d, %t: it has more than 9 digits", n, got, ok)
		}
		return
	}
	if got != n || !ok {
		t.Errorf("Parse of the text of %d is %d, %t", n, got, ok)
	}
	if n >= 0 {
		text := Put(n)
		if got, end, ok := Take("x"+text+",1", 1, 9); got != n || end != 1+len(text) || !ok {
			t.Errorf("Take of the text of %d is %d, %d, %t", n, got, end, ok)
		}
	}
}

func TestNumbersAreRecovered(t *testing.T) {
	for n := -12000; n <= 12000; n++ {
		checkNumber(t, n)
	}
	for _, n := range edges() {
		checkNumber(t, n)
	}
	draws := rand.New(rand.NewSource(33))
	for range 20000 {
		checkNumber(t, draws.Intn(2*999999999+1)-999999999)
	}
}

func TestListsAreRecovered(t *testing.T) {
	few := []int{0, 1, -1, 10, -305, 999999999, -999999999}
	draws := rand.New(rand.NewSource(333))
	for count := range 200 {
		l := make([]int, count)
		for i := range l {
			if draws.Intn(2) == 0 {
				l[i] = few[draws.Intn(len(few))]
			} else {
				l[i] = draws.Intn(2*999999999+1) - 999999999
			}
		}
		if got, ok := Unlist(List(l)); !slices.Equal(got, l) || !ok {
			t.Fatalf("Unlist of List of %v is %v, %t", l, got, ok)
		}
	}
	for _, n := range edges() {
		if got, ok := Unlist(List([]int{1, n})); ok != readable(n) || ok && !slices.Equal(got, []int{1, n}) {
			t.Errorf("Unlist of List of 1 and %d is %v, %t", n, got, ok)
		}
	}
}

func TestWhatIsReadHasExactlyThatText(t *testing.T) {
	short.Each("019-,x", 6, func(s string) {
		if n, ok := Parse(s); ok && Put(n) != s {
			t.Fatalf("Parse(%q) is %d, whose text is %q", s, n, Put(n))
		}
		if l, ok := Unlist(s); ok && List(l) != s {
			t.Fatalf("Unlist(%q) is %v, whose List is %q", s, l, List(l))
		}
		if n, end, ok := Take(s, 0, 9); ok && Put(n) != s[:end] {
			t.Fatalf("Take(%q) is %d up to %d, its text is %q", s, n, end, Put(n))
		}
	})
}

// R3: the caller's list stays as it is, beyond its length too; what is
// answered is new memory.

func TestListKeepsTheList(t *testing.T) {
	list := []int{3, -1, 0, 7, 8}
	List(list[:2])
	if !slices.Equal(list, []int{3, -1, 0, 7, 8}) {
		t.Errorf("the list after List is %v", list)
	}
}

func TestUnlistAnswersNewMemory(t *testing.T) {
	first, _ := Unlist("1,2,3")
	second, _ := Unlist("1,2,3")
	first = append(first[:1], 9, 9)
	third, _ := Unlist("1,2,3")
	if want := []int{1, 2, 3}; !slices.Equal(second, want) || !slices.Equal(third, want) {
		t.Errorf("after changing the answer %v of Unlist, others are %v and %v", first, second, third)
	}
}
