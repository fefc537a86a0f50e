package vari

import (
	"encoding/binary"
	"math"
	"math/rand"
	"strconv"
	"strings"
	"testing"

	"trident/api"
	"trident/internal/short"
)

// edges are numbers around every place where the encodings change: each number
// at which they become a byte longer, the bounds of what is encoded, the bounds
// of ints.
func edges() []int {
	list := []int{0, 1, 2, 3, 300, 1000, 123456789, math.MaxInt32, math.MaxInt32 - 1, math.MinInt32, math.MinInt32 + 1, math.MaxInt, math.MaxInt - 1, math.MinInt, math.MinInt + 1}
	for shift := range strconv.IntSize - 2 {
		power := 1 << shift
		for _, n := range []int{power - 2, power - 1, power, power + 1} {
			list = append(list, n, -n)
		}
	}
	return list
}

// inBytes writes the bytes of s as two hexadecimal digits each.
func inBytes(s string) string {
	const digits = "0123456789abcdef"
	text := []byte{}
	for i := range len(s) {
		text = append(text, ' ', digits[s[i]>>4], digits[s[i]&15])
	}
	return strings.TrimSpace(string(text))
}

// encoded are numbers with their encodings.
var encoded = []struct {
	n    int
	want string
}{
	{0, "\x00"},
	{1, "\x01"},
	{5, "\x05"},
	{100, "\x64"},
	{126, "\x7e"},
	{127, "\x7f"},
	{128, "\x80\x01"},
	{129, "\x81\x01"},
	{255, "\xff\x01"},
	{256, "\x80\x02"},
	{300, "\xac\x02"},
	{16382, "\xfe\x7f"},
	{16383, "\xff\x7f"},
	{16384, "\x80\x80\x01"},
	{16385, "\x81\x80\x01"},
	{1000000, "\xc0\x84\x3d"},
	{2097151, "\xff\xff\x7f"},
	{2097152, "\x80\x80\x80\x01"},
	{2097153, "\x81\x80\x80\x01"},
	{268435455, "\xff\xff\xff\x7f"},
	{268435456, "\x80\x80\x80\x80\x01"},
	{268435457, "\x81\x80\x80\x80\x01"},
	{305419896, "\xf8\xac\xd1\x91\x01"},
	{1073741824, "\x80\x80\x80\x80\x04"},
	{2147483646, "\xfe\xff\xff\xff\x07"},
	{2147483647, "\xff\xff\xff\xff\x07"},
}

// signed are numbers with their signed encodings.
var signed = []struct {
	n    int
	want string
}{
	{0, "\x00"},
	{-1, "\x01"},
	{1, "\x02"},
	{-2, "\x03"},
	{2, "\x04"},
	{-3, "\x05"},
	{63, "\x7e"},
	{-64, "\x7f"},
	{64, "\x80\x01"},
	{-65, "\x81\x01"},
	{150, "\xac\x02"},
	{999, "\xce\x0f"},
	{-999, "\xcd\x0f"},
	{8191, "\xfe\x7f"},
	{-8192, "\xff\x7f"},
	{8192, "\x80\x80\x01"},
	{-8193, "\x81\x80\x01"},
	{1048575, "\xfe\xff\x7f"},
	{-1048576, "\xff\xff\x7f"},
	{1048576, "\x80\x80\x80\x01"},
	{-1048577, "\x81\x80\x80\x01"},
	{134217727, "\xfe\xff\xff\x7f"},
	{-134217728, "\xff\xff\xff\x7f"},
	{134217728, "\x80\x80\x80\x80\x01"},
	{-134217729, "\x81\x80\x80\x80\x01"},
	{1073741822, "\xfc\xff\xff\xff\x07"},
	{-1073741823, "\xfd\xff\xff\xff\x07"},
	{1073741823, "\xfe\xff\xff\xff\x07"},
	{-1073741824, "\xff\xff\xff\xff\x07"},
}

// P4.1: the encodings of numbers, and their lengths.

func TestPut(t *testing.T) {
	for _, c := range encoded {
		if got := Put(c.n); got != c.want {
			t.Errorf("Put(%d) is %s, want %s", c.n, inBytes(got), inBytes(c.want))
		}
		if got := Size(c.n); got != len(c.want) {
			t.Errorf("Size(%d) is %d, want %d", c.n, got, len(c.want))
		}
	}
}

func TestPutSigned(t *testing.T) {
	for _, c := range signed {
		if got := PutSigned(c.n); got != c.want {
			t.Errorf("PutSigned(%d) is %s, want %s", c.n, inBytes(got), inBytes(c.want))
		}
	}
}

func TestPutOfNumbersOutsideIsEmpty(t *testing.T) {
	outside := []int{-1, -2, -127, -128, -129, -16384, -1073741824, math.MinInt32, math.MinInt32 + 1, math.MinInt, math.MinInt + 1}
	for _, n := range append(outside, beyond(2147483648, 2147483649, 4294967295, 4294967296, 4294967297, 1<<35, 1<<42, 1<<62, math.MaxInt64)...) {
		if got := Put(n); got != "" {
			t.Errorf("Put(%d) is %s, want no bytes", n, inBytes(got))
		}
		if got := Size(n); got != 0 {
			t.Errorf("Size(%d) is %d, want 0", n, got)
		}
	}
}

func TestPutSignedOfNumbersOutsideIsEmpty(t *testing.T) {
	outside := []int{1073741824, 1073741825, -1073741825, -1073741826, math.MaxInt32, math.MinInt32, math.MaxInt, math.MaxInt - 1, math.MinInt, math.MinInt + 1, math.MaxInt/2 + 1, math.MinInt/2 - 1}
	for _, n := range append(outside, beyond(2147483648, -2147483649, 4294967296, -4294967296, 1<<62, -1<<62, -1<<63, 1<<61, -1<<61)...) {
		if got := PutSigned(n); got != "" {
			t.Errorf("PutSigned(%d) is %s, want no bytes", n, inBytes(got))
		}
	}
}

// beyond returns those of the numbers that an int holds.
func beyond(numbers ...int64) []int {
	var list []int
	for _, n := range numbers {
		if int64(int(n)) == n {
			list = append(list, int(n))
		}
	}
	return list
}

// checkPut holds what is put against what the library encodes.
func checkPut(t *testing.T, n int) {
	t.Helper()
	want := ""
	if 0 <= n && n <= 2147483647 {
		want = string(binary.AppendUvarint(nil, uint64(n)))
	}
	if got := Put(n); got != want {
		t.Fatalf("Put(%d) is %s, want %s", n, inBytes(got), inBytes(want))
	}
	if got := Size(n); got != len(want) {
		t.Fatalf("Size(%d) is %d, want %d", n, got, len(want))
	}
	want = ""
	if -1073741824 <= n && n <= 1073741823 {
		want = string(binary.AppendVarint(nil, int64(n)))
	}
	if got := PutSigned(n); got != want {
		t.Fatalf("PutSigned(%d) is %s, want %s", n, inBytes(got), inBytes(want))
	}
}

func TestPutAsTheLibraryEncodes(t *testing.T) {
	for n := -70000; n <= 70000; n++ {
		checkPut(t, n)
	}
	for _, n := range edges() {
		checkPut(t, n)
	}
	draws := rand.New(rand.NewSource(4))
	for range 100000 {
		checkPut(t, int(draws.Uint64())>>draws.Intn(strconv.IntSize))
	}
}

// P4.2: Take and TakeSigned.

func TestTake(t *testing.T) {
	for _, c := range []struct {
		s      string
		at     int
		n, end int
		e      api.Errno
		what   string
	}{
		{"\xac\x02", 0, 300, 2, api.OK, "the chapter's example"},
		{"\x00", 0, 0, 1, api.OK, "0"},
		{"\x7f", 0, 127, 1, api.OK, "the greatest of one byte"},
		{"\x80\x01", 0, 128, 2, api.OK, "the least of two bytes"},
		{"\xff\xff\xff\xff\x07", 0, 2147483647, 5, api.OK, "the greatest number"},
		{"ab\xac\x02cd", 2, 300, 4, api.OK, "other bytes before and after"},
		{"\x80\x80\x80\x80\x80\xac\x02\x80\x80\x80", 5, 300, 7, api.OK, "bytes of 128 before and after"},
		{"\xac\x02", 1, 2, 2, api.OK, "from inside an encoding"},
		{"\x01\x02\x03", 1, 2, 2, api.OK, "between encodings"},
		{"\xff\xff\xff\xff\x07\x00", 0, 2147483647, 5, api.OK, "the greatest number, another one after it"},
		{"\x05\x80", 0, 5, 1, api.OK, "what follows is cut off"},
		{"\x05\x80\x80\x80\x80\x80", 0, 5, 1, api.OK, "what follows is no encoding"},

		{"", 0, 0, 0, api.ErrEnd, "the empty string"},
		{"", -1, 0, 0, api.ErrArg, "before the empty string"},
		{"", 1, 0, 0, api.ErrArg, "beyond the empty string"},
		{"\x05", 1, 0, 0, api.ErrEnd, "the end of the string"},
		{"\x05", 2, 0, 0, api.ErrArg, "beyond the end"},
		{"\x05", -1, 0, 0, api.ErrArg, "a negative index"},
		{"\x05", math.MaxInt, 0, 0, api.ErrArg, "far beyond the end"},
		{"\x05", math.MinInt, 0, 0, api.ErrArg, "far before the string"},
		{"\x80", 2, 0, 0, api.ErrArg, "beyond the end of what is cut off"},
		{"\x80\x80\x80\x80\x80", -1, 0, 0, api.ErrArg, "a negative index, then no encoding"},
		{"\x80\x80\x80\x80\x80", 6, 0, 0, api.ErrArg, "beyond what is no encoding"},

		{"\x80", 0, 0, 0, api.ErrEnd, "cut off after one byte"},
		{"\x80\x80", 0, 0, 0, api.ErrEnd, "cut off after two bytes"},
		{"\xff\xff\xff", 0, 0, 0, api.ErrEnd, "cut off after three bytes"},
		{"\xff\xff\xff\xff", 0, 0, 0, api.ErrEnd, "cut off after four bytes"},
		{"\x01\x80", 1, 0, 0, api.ErrEnd, "cut off after another one"},
		{"\xff\xff\xff\xff\xff", 1, 0, 0, api.ErrEnd, "the last four of five bytes"},
		{"\xff\xff\xff\xff\xff", 5, 0, 0, api.ErrEnd, "the end of bytes of 255"},

		{"\x80\x80\x80\x80\x80", 0, 0, 0, api.ErrForm, "5 bytes, none below 128"},
		{"\xff\xff\xff\xff\xff", 0, 0, 0, api.ErrForm, "5 bytes of 255"},
		{"\x80\x80\x80\x80\x80\x01", 0, 0, 0, api.ErrForm, "6 bytes, only the last below 128"},
		{"\x80\x80\x80\x80\x80\x80\x80\x80\x80", 0, 0, 0, api.ErrForm, "9 bytes, none below 128"},
		{"\x80\x80\x80\x80\x80\x80\x80\x80\x80", 4, 0, 0, api.ErrForm, "the last 5 of 9 bytes"},
		{"\x80\x80\x80\x80\x80\x80\x80\x80\x80", 5, 0, 0, api.ErrEnd, "the last 4 of 9 bytes"},
		{"x\x80\x80\x80\x80\x80\x01", 1, 0, 0, api.ErrForm, "5 bytes of 128 after another byte"},

		{"\x80\x00", 0, 0, 0, api.ErrForm, "0 in two bytes"},
		{"\x80\x80\x00", 0, 0, 0, api.ErrForm, "0 in three bytes"},
		{"\x80\x80\x80\x80\x00", 0, 0, 0, api.ErrForm, "0 in five bytes"},
		{"\x85\x00", 0, 0, 0, api.ErrForm, "5 in two bytes"},
		{"\xff\x00", 0, 0, 0, api.ErrForm, "127 in two bytes"},
		{"\xac\x82\x00", 0, 0, 0, api.ErrForm, "300 in three bytes"},
		{"\xff\xff\xff\xff\x00", 0, 0, 0, api.ErrForm, "268435455 in five bytes"},
		{"\x80\x00\x01", 0, 0, 0, api.ErrForm, "0 in two bytes, another one after it"},
		{"\x80\x00", 1, 0, 2, api.OK, "the 0 at the end alone"},

		{"\x80\x80\x80\x80\x08", 0, 0, 0, api.ErrForm, "2147483648"},
		{"\xff\xff\xff\xff\x08", 0, 0, 0, api.ErrForm, "above 2147483647"},
		{"\xff\xff\xff\xff\x0f", 0, 0, 0, api.ErrForm, "4294967295"},
		{"\x80\x80\x80\x80\x10", 0, 0, 0, api.ErrForm, "4294967296"},
		{"\x85\x80\x80\x80\x10", 0, 0, 0, api.ErrForm, "4294967301, which 32 bits would take for 5"},
		{"\xff\xff\xff\xff\x7f", 0, 0, 0, api.ErrForm, "the greatest of five bytes"},
		{"\x80\x80\x80\x80\x07", 0, 1879048192, 5, api.OK, "the greatest last byte of five"},
		{"\x80\x80\x80\x80\x01", 0, 268435456, 5, api.OK, "the least of five bytes"},
	} {
		n, end, e := Take(c.s, c.at)
		if n != c.n || end != c.end || e != c.e {
			t.Errorf("%s: Take(%s, %d) is %d, %d, %d, want %d, %d, %d", c.what, inBytes(c.s), c.at, n, end, e, c.n, c.end, c.e)
		}
	}
}

func TestTakeOfEncodings(t *testing.T) {
	for _, c := range encoded {
		if n, end, e := Take("\x80"+c.want+"\x80", 1); n != c.n || end != 1+len(c.want) || e != api.OK {
			t.Errorf("Take of %s is %d, %d, %d, want %d", inBytes(c.want), n, end, e, c.n)
		}
	}
	for _, c := range signed {
		if n, end, e := TakeSigned("\x80"+c.want+"\x80", 1); n != c.n || end != 1+len(c.want) || e != api.OK {
			t.Errorf("TakeSigned of %s is %d, %d, %d, want %d", inBytes(c.want), n, end, e, c.n)
		}
	}
}

func TestTakeSigned(t *testing.T) {
	for _, c := range []struct {
		s      string
		at     int
		n, end int
		e      api.Errno
		what   string
	}{
		{"\x05", 0, -3, 1, api.OK, "the chapter's example"},
		{"\x00", 0, 0, 1, api.OK, "0"},
		{"\x01", 0, -1, 1, api.OK, "-1"},
		{"\x02", 0, 1, 1, api.OK, "1"},
		{"ab\xcd\x0fcd", 2, -999, 4, api.OK, "other bytes before and after"},
		{"\xfe\xff\xff\xff\x07", 0, 1073741823, 5, api.OK, "the greatest number"},
		{"\xff\xff\xff\xff\x07", 0, -1073741824, 5, api.OK, "the least number"},
		{"", 0, 0, 0, api.ErrEnd, "the empty string"},
		{"\x05", 1, 0, 0, api.ErrEnd, "the end of the string"},
		{"\x05", 2, 0, 0, api.ErrArg, "beyond the end"},
		{"\x05", -1, 0, 0, api.ErrArg, "a negative index"},
		{"\x05", math.MaxInt, 0, 0, api.ErrArg, "far beyond the end"},
		{"\x05", math.MinInt, 0, 0, api.ErrArg, "far before the string"},
		{"\x81\x81\x81\x81", 0, 0, 0, api.ErrEnd, "cut off after four bytes"},
		{"\x81", 0, 0, 0, api.ErrEnd, "cut off after one byte"},
		{"\x81\x81\x81\x81\x81", 0, 0, 0, api.ErrForm, "5 bytes, none below 128"},
		{"\x81\x81\x81\x81\x81\x01", 0, 0, 0, api.ErrForm, "6 bytes, only the last below 128"},
		{"\x81\x00", 0, 0, 0, api.ErrForm, "-1 in two bytes"},
		{"\x80\x80\x80\x80\x08", 0, 0, 0, api.ErrForm, "1073741824"},
		{"\x81\x80\x80\x80\x08", 0, 0, 0, api.ErrForm, "-1073741825"},
		{"\xff\xff\xff\xff\x7f", 0, 0, 0, api.ErrForm, "the greatest of five bytes"},
	} {
		n, end, e := TakeSigned(c.s, c.at)
		if n != c.n || end != c.end || e != c.e {
			t.Errorf("%s: TakeSigned(%s, %d) is %d, %d, %d, want %d, %d, %d", c.what, inBytes(c.s), c.at, n, end, e, c.n, c.end, c.e)
		}
	}
}

// wantTake is what Take and TakeSigned must answer, decoded by the library.
func wantTake(s string, at int) (n, signed, end int, e api.Errno) {
	if at < 0 || at > len(s) {
		return 0, 0, 0, api.ErrArg
	}
	rest := []byte(s[at:])
	value, size := binary.Uvarint(rest)
	if size == 0 && len(rest) < 5 {
		return 0, 0, 0, api.ErrEnd
	}
	if size < 1 || value > 2147483647 || len(binary.AppendUvarint(nil, value)) != size {
		return 0, 0, 0, api.ErrForm
	}
	zigzag, _ := binary.Varint(rest)
	return int(value), int(zigzag), at + size, api.OK
}

func checkTake(t *testing.T, s string, at int) {
	t.Helper()
	wantN, wantSigned, wantEnd, wantE := wantTake(s, at)
	if n, end, e := Take(s, at); n != wantN || end != wantEnd || e != wantE {
		t.Fatalf("Take(%s, %d) is %d, %d, %d, want %d, %d, %d", inBytes(s), at, n, end, e, wantN, wantEnd, wantE)
	}
	if n, end, e := TakeSigned(s, at); n != wantSigned || end != wantEnd || e != wantE {
		t.Fatalf("TakeSigned(%s, %d) is %d, %d, %d, want %d, %d, %d", inBytes(s), at, n, end, e, wantSigned, wantEnd, wantE)
	}
}

func TestTakeOfShortStringsAsTheLibraryDecodes(t *testing.T) {
	short.Each("\x00\x01\x7f\x80\x81\xff", 6, func(s string) {
		for at := -1; at <= len(s)+1; at++ {
			checkTake(t, s, at)
		}
	})
}

func TestTakeOfEveryLastByteAsTheLibraryDecodes(t *testing.T) {
	short.Each("\x80\x81\xff", 6, func(s string) {
		for last := range 256 {
			checkTake(t, s+string([]byte{byte(last)}), 0)
			checkTake(t, "\x7f"+s+string([]byte{byte(last)})+"\x80", 1)
		}
	})
}

func TestTakeOfDrawnBytesAsTheLibraryDecodes(t *testing.T) {
	draws := rand.New(rand.NewSource(42))
	for range 200000 {
		s := make([]byte, draws.Intn(12))
		for i := range s {
			s[i] = byte(draws.Intn(256)) | byte(draws.Intn(2)<<7)
		}
		checkTake(t, string(s), draws.Intn(len(s)+3)-1)
	}
}

// P4.3: what is encoded is decoded, whatever follows it; what is decoded has
// exactly these bytes; no encoding is a proper prefix of another one.

// checkDecoded checks that take answers n at every place where the encoding
// stands, whatever is before and after it, and no number from a part of it.
func checkDecoded(t *testing.T, what string, n int, text string, take func(string, int) (int, int, api.Errno)) {
	t.Helper()
	for _, before := range []string{"", "\x00", "\x80", "\xff\xff\xff\xff\xff\xff"} {
		for _, after := range []string{"", "\x00", "\x01", "\x7f", "\x80", "\xff\xff\xff\xff\xff", text} {
			got, end, e := take(before+text+after, len(before))
			if got != n || end != len(before)+len(text) || e != api.OK {
				t.Fatalf("%s of %d between %s and %s is %d, %d, %d", what, n, inBytes(before), inBytes(after), got, end, e)
			}
		}
	}
	for size := range len(text) {
		if got, end, e := take(text[:size], 0); got != 0 || end != 0 || e != api.ErrEnd {
			t.Fatalf("%s of %d bytes of the encoding of %d is %d, %d, %d", what, size, n, got, end, e)
		}
	}
}

func checkRecovered(t *testing.T, n int) {
	t.Helper()
	if text := Put(n); text != "" {
		checkDecoded(t, "Take", n, text, Take)
	}
	if text := PutSigned(n); text != "" {
		checkDecoded(t, "TakeSigned", n, text, TakeSigned)
	}
}

func TestNumbersAreRecovered(t *testing.T) {
	for n := -40000; n <= 40000; n++ {
		checkRecovered(t, n)
	}
	for _, n := range edges() {
		checkRecovered(t, n)
	}
	draws := rand.New(rand.NewSource(43))
	for range 20000 {
		checkRecovered(t, int(draws.Int31())>>draws.Intn(31))
		checkRecovered(t, -int(draws.Int31())>>draws.Intn(31))
	}
}

func TestWhatIsDecodedHasExactlyTheseBytes(t *testing.T) {
	short.Each("\x00\x01\x07\x08\x7f\x80\xff", 6, func(s string) {
		if n, end, e := Take(s, 0); e == api.OK && Put(n) != s[:end] {
			t.Fatalf("Take(%s) is %d up to %d, its encoding is %s", inBytes(s), n, end, inBytes(Put(n)))
		}
		if n, end, e := TakeSigned(s, 0); e == api.OK && PutSigned(n) != s[:end] {
			t.Fatalf("TakeSigned(%s) is %d up to %d, its encoding is %s", inBytes(s), n, end, inBytes(PutSigned(n)))
		}
	})
}

func TestNoEncodingBeginsAnother(t *testing.T) {
	var texts []string
	for _, n := range edges() {
		texts = append(texts, Put(n))
	}
	for n := range 3000 {
		texts = append(texts, Put(n))
	}
	for _, a := range texts {
		for _, b := range texts {
			if a != "" && a != b && strings.HasPrefix(b, a) {
				t.Fatalf("%s is a prefix of %s", inBytes(a), inBytes(b))
			}
		}
	}
}
