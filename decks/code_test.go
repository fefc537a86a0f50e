package decks

import (
	"fmt"
	"math"
	"math/rand"
	"slices"
	"strings"
	"testing"

	"trident/api"
	"trident/internal/short"
)

// inLetters are numbers below 256 as hexadecimal digits, of which 0 to 9 are a to j and a to
// f are k to p.
func inLetters(numbers ...int) string {
	var b strings.Builder
	for _, n := range numbers {
		fmt.Fprintf(&b, "%02x", n)
	}
	return strings.Map(func(r rune) rune {
		if r <= '9' {
			return r - '0' + 'a'
		}
		return r - 'a' + 'k'
	}, b.String())
}

// checksum is the checksum of s as two letters, without any remainder taken on the way: a is
// the sum of the bytes, b their sum, each taken as many times as bytes, itself among them,
// come from it on.
func checksum(s string) string {
	a, b := 0, 0
	for i := range len(s) {
		a += int(s[i])
		b += int(s[i]) * (len(s) - i)
	}
	return inLetters(a % 255 % 16)[1:] + inLetters(b % 255 % 16)[1:]
}

// wantCode is the code of a list.
func wantCode(l []int) string {
	for _, n := range l {
		if n < 0 || n > 127 {
			return ""
		}
	}
	s := inLetters(l...)
	return s + checksum(s)
}

// wantUncode is what Uncode answers of s.
func wantUncode(s string) ([]int, api.Errno) {
	if s == "" || len(s) == 1 {
		return nil, api.ErrEnd
	}
	if strings.Trim(s, "abcdefghijklmnop") != "" || len(s)&1 == 1 {
		return nil, api.ErrForm
	}
	for i := range len(s) / 2 {
		if inLast := 2*i == len(s)-2; !inLast && s[2*i] > 'h' {
			return nil, api.ErrRange
		}
	}
	if s[len(s)-2:] != checksum(s[:len(s)-2]) {
		return nil, api.ErrSum
	}
	var l []int
	for i := range len(s)/2 - 1 {
		for n := range 128 {
			if s[2*i:2*i+2] == inLetters(n) {
				l = append(l, n)
			}
		}
	}
	return l, api.OK
}

// checkCode checks the code of a list, twice.
func checkCode(t *testing.T, l []int, want string) {
	t.Helper()
	for range 2 {
		if got := Code(l); got != want {
			t.Fatalf("Code of %s is %.200q, want %.200q", brief(l), got, want)
		}
	}
}

// checkUncode checks the numbers of a string, twice.
func checkUncode(t *testing.T, s string, want []int, e api.Errno) {
	t.Helper()
	for range 2 {
		got, gotE := Uncode(s)
		if !slices.Equal(got, want) || gotE != e {
			t.Fatalf("Uncode of %.200q is %s, %d, want %s, %d", s, brief(got), gotE, brief(want), e)
		}
	}
}

// checkBoth checks that a list of numbers from 0 to 127 and its code belong together.
func checkBoth(t *testing.T, l []int) {
	t.Helper()
	s := wantCode(l)
	checkCode(t, l, s)
	checkUncode(t, s, l, api.OK)
}

// written are lists with their codes.
var written = []struct {
	l []int
	s string
}{
	{nil, "aa"},
	{[]int{0}, "aace"},
	{[]int{1}, "abdf"},
	{[]int{15}, "apbd"},
	{[]int{16}, "badg"},
	{[]int{17}, "bbeh"},
	{[]int{127}, "hpib"},
	{[]int{0, 17}, "aabbha"},
	{[]int{17, 0}, "bbaahe"},
}

// P20.2: the chapter's example, and others that are written out.
func TestWrittenCodes(t *testing.T) {
	for _, w := range written {
		checkCode(t, w.l, w.s)
		checkUncode(t, w.s, w.l, api.OK)
		if model := wantCode(w.l); model != w.s {
			t.Errorf("the code of %v is %q in these tests, want %q", w.l, model, w.s)
		}
	}
	checkCode(t, []int{}, "aa")
}

// P20.2: every number, alone, at the beginning, in the middle and at the end.
func TestEveryNumber(t *testing.T) {
	for n := range 128 {
		checkBoth(t, []int{n})
		checkBoth(t, []int{n, n})
		checkBoth(t, []int{n, 5, 127, 0})
		checkBoth(t, []int{5, 127, n, 0})
		checkBoth(t, []int{5, 127, 0, n})
		for m := range 128 {
			checkBoth(t, []int{n, m})
		}
	}
}

// P20.2: numbers that no code has, at every place.
func TestNumbersWithoutCode(t *testing.T) {
	numbers := []int{
		128, 129, 143, 144, 255, 256, 257, 272, 1000, 1 << 16, math.MaxInt32, 1 << 32, 1<<32 + 17, math.MaxInt - 1, math.MaxInt,
		-1, -2, -15, -16, -17, -111, -127, -128, -129, -255, -256, math.MinInt32, -1 << 32, math.MinInt + 1, math.MinInt,
	}
	for _, n := range numbers {
		checkCode(t, []int{n}, "")
		checkCode(t, []int{n, n}, "")
		for size := range 30 {
			for at := range size {
				checkCode(t, with(span(0, size, 1), at, n), "")
			}
		}
	}
	for _, n := range numbers {
		for _, m := range numbers {
			checkCode(t, []int{1, n, 2, m}, "")
		}
	}
}

// drawnNumbers returns so many drawn numbers from 0 to 127.
func drawnNumbers(draws *rand.Rand, size int) []int {
	l := make([]int, size)
	for i := range l {
		l[i] = draws.Intn(128)
	}
	return l
}

// P20.2 and P20.3: numbers are recovered from their code, also many of them.
func TestNumbersAreRecovered(t *testing.T) {
	draws := rand.New(rand.NewSource(204))
	for range 5000 {
		checkBoth(t, drawnNumbers(draws, draws.Intn(40)))
	}
	for _, size := range []int{255, 256, 1000, 1 << 16} {
		checkBoth(t, drawnNumbers(draws, size))
		checkBoth(t, make([]int, size))
		checkBoth(t, slices.Repeat([]int{127}, size))
	}
	long := drawnNumbers(draws, 1<<18)
	checkCode(t, long, wantCode(long))
	checkCode(t, append(long, 128), "")
	if got, e := Uncode(Code(long)); !slices.Equal(got, long) || e != api.OK {
		t.Errorf("%d of %d numbers are recovered, with the error %d", len(got), len(long), e)
	}
}

// P20.2: the empty string and strings of one byte.
func TestShorterThanAChecksum(t *testing.T) {
	checkUncode(t, "", nil, api.ErrEnd)
	for b := range 256 {
		checkUncode(t, string([]byte{byte(b)}), nil, api.ErrEnd)
	}
}

// P20.2: all strings of two bytes: the checksum alone.
func TestChecksumAlone(t *testing.T) {
	for first := range 256 {
		for second := range 256 {
			s := string([]byte{byte(first), byte(second)})
			e := api.ErrSum
			switch {
			case s == "aa":
				e = api.OK
			case first < 'a' || first > 'p' || second < 'a' || second > 'p':
				e = api.ErrForm
			}
			checkUncode(t, s, nil, e)
		}
	}
}

// P20.2: an odd number of bytes.
func TestOddNumbersOfBytes(t *testing.T) {
	draws := rand.New(rand.NewSource(205))
	for _, s := range []string{"aaa", "aab", "baa", "ppp", "aabbh", "abbha", "aabbhaa", "aaabbha", "aabbha\x00", "aabbhaA"} {
		checkUncode(t, s, nil, api.ErrForm)
	}
	for range 1000 {
		s := Code(drawnNumbers(draws, 1+draws.Intn(20)))
		at := draws.Intn(len(s))
		checkUncode(t, s[:at]+s[at+1:], nil, api.ErrForm)
		checkUncode(t, s[:at]+"a"+s[at:], nil, api.ErrForm)
		checkUncode(t, s+"p", nil, api.ErrForm)
	}
}

// P20.2: every byte that is no letter of a code, at every place.
func TestBytesThatAreNoLetters(t *testing.T) {
	codes := []string{"aa", "aace", "aabbha", Code(span(0, 11, 1)), Code(span(116, 127, 1))}
	for _, s := range codes {
		for at := range len(s) {
			for b := range 256 {
				if b >= 'a' && b <= 'p' {
					continue
				}
				checkUncode(t, s[:at]+string([]byte{byte(b)})+s[at+1:], nil, api.ErrForm)
			}
		}
		checkUncode(t, strings.ToUpper(s), nil, api.ErrForm)
		checkUncode(t, s+"é", nil, api.ErrForm)
		checkUncode(t, " "+s+"\n", nil, api.ErrForm)
	}
}

// P20.2: two letters that denote 128 or more.
func TestRange(t *testing.T) {
	for n := range 256 {
		e := api.OK
		if n > 127 {
			e = api.ErrRange
		}
		for size := 1; size < 13; size++ {
			for at := range size {
				l := with(span(0, size-1, 1), at, n)
				s := inLetters(l...)
				want := l
				if e != api.OK {
					want = nil
				}
				checkUncode(t, s+checksum(s), want, e)
			}
		}
	}
	// The last two letters denote no number, whatever they are.
	for n := range 256 {
		s := inLetters(17, n)
		want, e := []int{17}, api.OK
		if n != 4*16+7 {
			want, e = nil, api.ErrSum
		}
		checkUncode(t, s, want, e)
	}
}

// P20.2: of each list exactly one ending is the checksum.
func TestEndings(t *testing.T) {
	draws := rand.New(rand.NewSource(206))
	lists := [][]int{nil, {0}, {127}, {0, 17}, span(0, 11, 1), span(0, 127, 1), make([]int, 1000)}
	for range 200 {
		lists = append(lists, drawnNumbers(draws, draws.Intn(30)))
	}
	for _, l := range lists {
		s := wantCode(l)
		for n := range 256 {
			changed := s[:len(s)-2] + inLetters(n)
			if changed == s {
				checkUncode(t, changed, l, api.OK)
			} else {
				checkUncode(t, changed, nil, api.ErrSum)
			}
		}
	}
}

// P20.2: each letter of a code changed to each other one.
func TestLettersChanged(t *testing.T) {
	draws := rand.New(rand.NewSource(207))
	for range 200 {
		s := Code(drawnNumbers(draws, draws.Intn(13)))
		for at := range len(s) {
			for letter := byte('a'); letter <= 'p'; letter++ {
				changed := s[:at] + string(letter) + s[at+1:]
				want, e := wantUncode(changed)
				checkUncode(t, changed, want, e)
				if e == api.OK && changed != s {
					t.Errorf("%q and %q both have numbers", s, changed)
				}
			}
		}
	}
}

// P20.2 and R2: where several errors hold, the one named first.
func TestOrderOfUncodeErrors(t *testing.T) {
	wants := []struct {
		what, s string
		e       api.Errno
	}{
		{"too short, odd", "a", api.ErrEnd},
		{"too short, odd, no letter", "q", api.ErrEnd},
		{"no letters and no checksum", "qq", api.ErrForm},
		{"odd and no letter", "aqa", api.ErrForm},
		{"odd and out of range", "iaaaa", api.ErrForm},
		{"odd and another checksum", "aaced", api.ErrForm},
		{"no letter before out of range", "aqiaaa", api.ErrForm},
		{"no letter after out of range", "iaaqaa", api.ErrForm},
		{"no letter in the checksum after out of range", "iaaaaq", api.ErrForm},
		{"no letter and another checksum", "aqbbhb", api.ErrForm},
		{"out of range and another checksum", "iaaa", api.ErrRange},
		{"out of range and its checksum", "ia" + checksum("ia"), api.ErrRange},
		{"the second out of range and another checksum", "aaiaaa", api.ErrRange},
		{"255 and another checksum", "ppaa", api.ErrRange},
		{"the last two letters out of range and another checksum", "aapp", api.ErrSum},
		{"another checksum alone", "pp", api.ErrSum},
		{"another first letter of the checksum", "aabbga", api.ErrSum},
		{"another second letter of the checksum", "aabbhb", api.ErrSum},
		{"the letters of the checksum exchanged", "aabbah", api.ErrSum},
		{"the numbers exchanged", "bbaaha", api.ErrSum},
	}
	for _, w := range wants {
		if l, e := Uncode(w.s); len(l) != 0 || e != w.e {
			t.Errorf("%s: Uncode of %q is %v, %d, want none, %d", w.what, w.s, l, e, w.e)
		}
	}
}

// checkString checks what Uncode answers of any string, and that decoded numbers have that
// code.
func checkString(t *testing.T, s string) bool {
	t.Helper()
	want, e := wantUncode(s)
	checkUncode(t, s, want, e)
	l, e := Uncode(s)
	if e == api.OK && Code(l) != s {
		t.Fatalf("Uncode of %q is %v, whose Code is %q", s, l, Code(l))
	}
	return e == api.OK
}

// P20.3: decoded numbers have exactly that code; of all strings of two letters and a
// checksum, the codes of the 128 numbers are the only ones that are decoded.
func TestDecodedNumbersHaveThatCode(t *testing.T) {
	decoded := 0
	for first := range 256 {
		for second := range 256 {
			if checkString(t, inLetters(first, second)) {
				decoded++
			}
		}
	}
	if decoded != 128 {
		t.Errorf("%d strings of four letters are decoded, want 128", decoded)
	}
}

// P20.2 and P20.3: short strings of telling bytes.
func TestShortStrings(t *testing.T) {
	short.Each("aehip`qA\xe1", 5, func(s string) {
		checkString(t, s)
	})
	short.Each("aehp", 6, func(s string) {
		checkString(t, s)
	})
	short.Each("adi", 8, func(s string) {
		checkString(t, s)
		checkString(t, s+checksum(s))
	})
}

// P20.2 and P20.3: drawn strings, some of them codes with a few changes.
func TestDrawnStrings(t *testing.T) {
	draws := rand.New(rand.NewSource(208))
	bytes := "abcdefghijklmnopppppaaaa`qAP\x00\x80\xe1\xff"
	decoded := 0
	for range 50000 {
		s := []byte(Code(drawnNumbers(draws, draws.Intn(14))))
		for range draws.Intn(3) {
			s[draws.Intn(len(s))] = bytes[draws.Intn(len(bytes))]
		}
		if checkString(t, string(s[:len(s)-min(draws.Intn(8)/6, len(s))])) {
			decoded++
		}
	}
	if decoded < 1000 {
		t.Errorf("only %d drawn strings are decoded", decoded)
	}
}
