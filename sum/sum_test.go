package sum

import (
	"math/big"
	"math/rand"
	"strings"
	"testing"

	"trident/internal/short"
)

// summed are strings with their checksums.
var summed = []struct {
	what string
	s    string
	a, b int
}{
	{"the chapter's example", "ab", 195, 37},
	{"the empty string", "", 0, 0},
	{"a byte 0", "\x00", 0, 0},
	{"a byte 1", "\x01", 1, 1},
	{"a byte 254", "\xfe", 254, 254},
	{"a byte 255", "\xff", 0, 0},
	{"bytes 0", "\x00\x00\x00\x00", 0, 0},
	{"bytes 255", "\xff\xff\xff\xff", 0, 0},
	{"1 before 0", "\x01\x00", 1, 2},
	{"1 before 255", "\x01\xff", 1, 2},
	{"0 before 1", "\x00\x01", 1, 1},
	{"255 before 1", "\xff\x01", 1, 1},
	{"both numbers just below 255", "\xfe\x00", 254, 253},
	{"the first number just 255", "\xfe\x01", 0, 254},
	{"the first number just above 255", "\xfe\x02", 1, 0},
	{"the second number just 255", "\x7f\x01", 128, 0},
	{"the second number just 254", "\x7e\x02", 128, 254},
	{"the second number just 256", "\x7f\x02", 129, 1},
	{"bytes that are not ASCII", "é", 109, 49},
	{"bytes that are no UTF-8", "\xc3\xc3", 135, 75},
	{"the four letters of a deck code", "aabb", 135, 208},
	{"a frame without its checksum", "\x54\x01\x00", 85, 254},
	{"the same bytes in another order", "\x00\x54\x01", 85, 169},
	{"letters", "abcdefgh", 39, 6},
}

// P6.1: the checksum of a string.

func TestOf(t *testing.T) {
	for _, c := range summed {
		if a, b := Of(c.s); a != c.a || b != c.b {
			t.Errorf("%s: Of(% x) is %d, %d, want %d, %d", c.what, c.s, a, b, c.a, c.b)
		}
	}
}

// wantOf is the checksum of s without any remainder taken on the way: a is the
// sum of the bytes, b their sum, each taken as many times as bytes, itself
// among them, come from it on.
func wantOf(s string) (int, int) {
	a, b := new(big.Int), new(big.Int)
	for i := range len(s) {
		n := big.NewInt(int64(s[i]))
		a.Add(a, n)
		b.Add(b, n.Mul(n, big.NewInt(int64(len(s)-i))))
	}
	modulus := big.NewInt(255)
	return int(a.Mod(a, modulus).Int64()), int(b.Mod(b, modulus).Int64())
}

func checkOf(t *testing.T, s string) {
	t.Helper()
	wantA, wantB := wantOf(s)
	for range 2 {
		if a, b := Of(s); a != wantA || b != wantB {
			t.Fatalf("Of %d bytes, first % x, is %d, %d, want %d, %d", len(s), s[:min(len(s), 40)], a, b, wantA, wantB)
		}
	}
}

func TestOfShortStrings(t *testing.T) {
	short.Each("\x00\x01\x7f\x80\xfe\xff", 6, func(s string) {
		checkOf(t, s)
	})
}

func TestOfAllPairsOfBytes(t *testing.T) {
	for first := range 256 {
		for second := range 256 {
			checkOf(t, string([]byte{byte(first), byte(second)}))
		}
	}
}

func TestOfLongStrings(t *testing.T) {
	for _, size := range []int{100, 254, 255, 256, 257, 510, 2048, 65535, 65536, 65537, 1 << 18} {
		for _, s := range []string{"\x01", "\x7f", "\x80", "\xfe", "\xff", "\x00\xfe", "\xff\x01"} {
			checkOf(t, strings.Repeat(s, size))
		}
	}
}

// drawn returns size drawn bytes.
func drawn(draws *rand.Rand, size int) string {
	bytes := make([]byte, size)
	for i := range bytes {
		bytes[i] = byte(draws.Intn(256))
	}
	return string(bytes)
}

func TestOfDrawnStrings(t *testing.T) {
	draws := rand.New(rand.NewSource(6))
	for range 2000 {
		checkOf(t, drawn(draws, draws.Intn(4<<draws.Intn(10))))
	}
}

// P6.1: Append.

func TestAppend(t *testing.T) {
	for _, c := range []struct {
		what, s, want string
	}{
		{"the chapter's example", "ab", "ab\xc3\x25"},
		{"the empty string", "", "\x00\x00"},
		{"a byte 0", "\x00", "\x00\x00\x00"},
		{"a byte 255", "\xff", "\xff\x00\x00"},
		{"a byte 254", "\xfe", "\xfe\xfe\xfe"},
		{"what Append returned for the empty string", "\x00\x00", "\x00\x00\x00\x00"},
		{"what Append returned for the chapter's example", "ab\xc3\x25", "ab\xc3\x25\xac\x59"},
		{"a frame without its checksum", "\x54\x01\x00", "\x54\x01\x00\x55\xfe"},
		{"a byte 128", "\x80", "\x80\x80\x80"},
	} {
		if got := Append(c.s); got != c.want {
			t.Errorf("%s: Append(% x) is % x, want % x", c.what, c.s, got, c.want)
		}
	}
}

func TestAppendOfSummedStrings(t *testing.T) {
	for _, c := range summed {
		want := c.s + string([]byte{byte(c.a), byte(c.b)})
		if got := Append(c.s); got != want {
			t.Errorf("%s: Append(% x) is % x, want % x", c.what, c.s, got, want)
		}
	}
}

// P6.1: Strip.

func TestStrip(t *testing.T) {
	for _, c := range []struct {
		what, s, want string
		ok            bool
	}{
		{"the chapter's example", "ab\xc3\x25", "ab", true},
		{"the checksum of the empty string", "\x00\x00", "", true},
		{"a byte 0", "\x00\x00\x00", "\x00", true},
		{"a byte 255", "\xff\x00\x00", "\xff", true},
		{"a byte 254", "\xfe\xfe\xfe", "\xfe", true},
		{"a whole frame", "\x54\x01\x00\x55\xfe", "\x54\x01\x00", true},
		{"a byte 0 before the chapter's example", "\x00ab\xc3\x25", "\x00ab", true},
		{"a checksum after another one", "\x00\x00\x00\x00", "\x00\x00", true},

		{"the empty string", "", "", false},
		{"one byte 0", "\x00", "", false},
		{"one byte 1", "\x01", "", false},
		{"one byte 255", "\xff", "", false},
		{"no checksum", "ab", "", false},
		{"the last byte cut off", "ab\xc3", "", false},
		{"the first byte cut off", "b\xc3\x25", "", false},
		{"another byte at the end", "ab\xc3\x25\x00", "", false},
		{"a byte 1 at the beginning", "\x01ab\xc3\x25", "", false},
		{"another last byte", "ab\xc3\x26", "", false},
		{"another last but one byte", "ab\xc4\x25", "", false},
		{"both last bytes other ones", "ab\xc4\x26", "", false},
		{"both last bytes exchanged", "ab\x25\xc3", "", false},
		{"the other bytes exchanged", "ba\xc3\x25", "", false},
		{"a frame whose last bytes are exchanged", "\x54\x01\x00\xfe\x55", "", false},

		{"255 for the first 0, of the empty string", "\xff\x00", "", false},
		{"255 for the second 0, of the empty string", "\x00\xff", "", false},
		{"255 for both 0, of the empty string", "\xff\xff", "", false},
		{"255 for the first 0 of a byte 255", "\xff\xff\x00", "", false},
		{"255 for the second 0 of a byte 255", "\xff\x00\xff", "", false},
		{"255 for both 0 of a byte 255", "\xff\xff\xff", "", false},
		{"only the first number is 0", "\xfe\x01\x00\xfe", "\xfe\x01", true},
		{"255 for it", "\xfe\x01\xff\xfe", "", false},
		{"only the second number is 0", "\xfe\x02\x01\x00", "\xfe\x02", true},
		{"255 for that", "\xfe\x02\x01\xff", "", false},
	} {
		if got, ok := Strip(c.s); got != c.want || ok != c.ok {
			t.Errorf("%s: Strip(% x) is % x, %t, want % x, %t", c.what, c.s, got, ok, c.want, c.ok)
		}
	}
}

// Of each string, exactly one pair of bytes is the checksum.
func TestStripOfAllEndings(t *testing.T) {
	for _, c := range summed {
		for first := range 256 {
			for second := range 256 {
				s := c.s + string([]byte{byte(first), byte(second)})
				want, wantOK := "", false
				if first == c.a && second == c.b {
					want, wantOK = c.s, true
				}
				if got, ok := Strip(s); got != want || ok != wantOK {
					t.Fatalf("%s: Strip(% x) is % x, %t, want % x, %t", c.what, s, got, ok, want, wantOK)
				}
			}
		}
	}
}

// P6.2: one changed byte, and the inverse.

// alike reports whether one byte may stand for the other in a checksum.
func alike(a, b byte) bool {
	return a == b || a == 0 && b == 255 || a == 255 && b == 0
}

// checkChanges changes each byte of s to each other value.
func checkChanges(t *testing.T, s string) {
	t.Helper()
	a, b := Of(s)
	whole := Append(s)
	for i := range len(s) {
		for value := range 256 {
			changed := s[:i] + string([]byte{byte(value)}) + s[i+1:]
			gotA, gotB := Of(changed)
			same := gotA == a && gotB == b
			if same != alike(s[i], byte(value)) {
				t.Fatalf("% x has the checksum %d, %d; with %d at %d it has %d, %d", s, a, b, value, i, gotA, gotB)
			}
			want := ""
			if same {
				want = changed
			}
			got, ok := Strip(changed + whole[len(s):])
			if got != want || ok != same {
				t.Fatalf("% x with %d at %d and the checksum from before: Strip is % x, %t", s, value, i, got, ok)
			}
		}
	}
}

func TestOneByteChanged(t *testing.T) {
	for _, c := range summed {
		checkChanges(t, c.s)
	}
	short.Each("\x00\x01\x80\xfe\xff", 3, func(s string) {
		checkChanges(t, s)
	})
	draws := rand.New(rand.NewSource(62))
	for range 20 {
		checkChanges(t, drawn(draws, draws.Intn(80)))
	}
	// A change 255 bytes before the end leaves b as it is: a alone tells.
	checkChanges(t, drawn(draws, 258))
}

// A changed byte of the checksum itself is no other string's.
func TestOneByteOfTheChecksumChanged(t *testing.T) {
	for _, c := range summed {
		whole := Append(c.s)
		for i := len(c.s); i < len(whole); i++ {
			for value := range 256 {
				changed := whole[:i] + string([]byte{byte(value)}) + whole[i+1:]
				if got, ok := Strip(changed); changed != whole && (got != "" || ok) {
					t.Fatalf("%s: Strip(% x) is % x, %t", c.what, changed, got, ok)
				}
			}
		}
	}
}

// checkInverse checks that Strip undoes Append, and Append Strip.
func checkInverse(t *testing.T, s string) {
	t.Helper()
	whole := Append(s)
	if len(whole) != len(s)+2 || !strings.HasPrefix(whole, s) {
		t.Fatalf("Append(% x) is % x", s, whole)
	}
	if got, ok := Strip(whole); got != s || !ok {
		t.Fatalf("Strip(% x), which is Append(% x), is % x, %t", whole, s, got, ok)
	}
	got, ok := Strip(s)
	if ok && Append(got) != s {
		t.Fatalf("Strip(% x) is % x, whose Append is % x", s, got, Append(got))
	}
	if !ok && (got != "" || len(s) >= 2 && Append(s[:len(s)-2]) == s) {
		t.Fatalf("Strip(% x) is % x, false", s, got)
	}
}

func TestInverse(t *testing.T) {
	for _, c := range summed {
		checkInverse(t, c.s)
	}
	short.Each("\x00\x01\x02\x80\xfe\xff", 6, func(s string) {
		checkInverse(t, s)
	})
	draws := rand.New(rand.NewSource(63))
	for range 20000 {
		checkInverse(t, drawn(draws, draws.Intn(3<<draws.Intn(8))))
	}
	checkInverse(t, strings.Repeat("\xfe\xff\x01", 1<<18))
}
