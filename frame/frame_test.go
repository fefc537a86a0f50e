package frame

import (
	"encoding/binary"
	"math"
	"math/rand"
	"strings"
	"testing"

	"trident/api"
	"trident/internal/short"
	"trident/sum"
	"trident/vari"
)

const (
	longestFrame   = 2048
	longestPayload = 2042
)

// noKinds are numbers that are no kinds, many of which a byte would hold as one.
var noKinds = []int{
	0, 10, 11, 84, 127, 128, 254, 255, 256, 257, 265, 266, 65535, 65537, math.MaxInt32 - 254, math.MaxInt32, math.MaxInt - 254, math.MaxInt - 1, math.MaxInt,
	-1, -2, -9, -10, -247, -255, -256, math.MinInt32, math.MinInt32 + 1, math.MinInt32 + 9, math.MinInt, math.MinInt + 1, math.MinInt + 9,
}

// framed writes a frame of any kind with any payload, however long.
func framed(kind byte, payload string) string {
	s := string(binary.AppendUvarint([]byte{0x54, kind}, uint64(len(payload))))
	return sum.Append(s + payload)
}

// frames are frames with what they are made of.
var frames = []struct {
	what    string
	kind    int
	payload string
	frame   string
}{
	{"the chapter's example", 1, "", "\x54\x01\x00\x55\xfe"},
	{"the greatest kind", 9, "", "\x54\x09\x00\x5d\x0f"},
	{"a kind between", 5, "", "\x54\x05\x00\x59\x07"},
	{"letters", 2, "ab", "\x54\x02\x02ab\x1c\xd8"},
	{"a poll", 1, "\x05\x01", "\x54\x01\x02\x05\x01\x5d\xba"},
	{"a byte 0", 3, "\x00", "\x54\x03\x01\x00\x58\x5c"},
	{"a byte 255", 3, "\xff", "\x54\x03\x01\xff\x58\x5c"},
	{"bytes that are no UTF-8", 6, "\xc3\xa9\xff\x80", "\x54\x06\x04\xc3\xa9\xff\x80\x4c\x13"},
	{"a checksum of 0 and 0", 1, "\xa7\x01", "\x54\x01\x02\xa7\x01\x00\x00"},
	{"first bytes of frames", 7, "\x54\x54", "\x54\x07\x02\x54\x54\x06\xc4"},
	{"a whole frame", 4, "\x54\x01\x00\x55\xfe", "\x54\x04\x05\x54\x01\x00\x55\xfe\x07\x30"},
	{"the chapter's example at its end", 1, "\xa1\x04\x54\x01\x00", "\x54\x01\x05\xa1\x04\x54\x01\x00\x55\xfe"},
	{"the longest payload with one byte for its length", 8, strings.Repeat("x", 127), "\x54\x08\x7f" + strings.Repeat("x", 127) + "\x9f\x8f"},
	{"the shortest payload with two bytes for its length", 8, strings.Repeat("x", 128), "\x54\x08\x80\x01" + strings.Repeat("x", 128) + "\x1a\x87"},
	{"the longest payload", 1, strings.Repeat("\x00", 2042), "\x54\x01\xfa\x0f" + strings.Repeat("\x00", 2042) + "\x5f\x18"},
}

// begin returns the first bytes of s, to be shown.
func begin(s string) string {
	return s[:min(len(s), 40)]
}

func checkMake(t *testing.T, what string, kind int, payload, want string, wantE api.Errno) {
	t.Helper()
	if got, e := Make(kind, payload); got != want || e != wantE {
		t.Errorf("%s: Make(%d, %d bytes) is %d bytes, first % x, with error %d, want %d bytes, first % x, with error %d",
			what, kind, len(payload), len(got), begin(got), e, len(want), begin(want), wantE)
	}
}

func checkOpen(t *testing.T, what, s string, wantKind int, wantPayload string, wantE api.Errno) {
	t.Helper()
	if kind, payload, e := Open(s); kind != wantKind || payload != wantPayload || e != wantE {
		t.Errorf("%s: Open of %d bytes, first % x, is kind %d, %d bytes, first % x, with error %d, want %d, %d bytes, first % x, with error %d",
			what, len(s), begin(s), kind, len(payload), begin(payload), e, wantKind, len(wantPayload), begin(wantPayload), wantE)
	}
}

// P7.1: Make.

func TestMake(t *testing.T) {
	for _, c := range frames {
		checkMake(t, c.what, c.kind, c.payload, c.frame, api.OK)
	}
}

func TestMakeOfEveryKindAndLength(t *testing.T) {
	for kind := 1; kind <= 9; kind++ {
		for size := range longestPayload + 1 {
			payload := strings.Repeat("\xa5", size)
			checkMake(t, "a payload that fits", kind, payload, framed(byte(kind), payload), api.OK)
		}
	}
}

// tooLong are lengths of payloads that do not fit.
var tooLong = []int{2043, 2044, 2045, 2046, 2047, 2048, 2049, 4096, 16383, 16384, 16385, 65536, 2097151, 2097152, 1 << 24}

func TestMakeOfTooLongPayloads(t *testing.T) {
	longest := strings.Repeat("\x00", tooLong[len(tooLong)-1])
	for _, size := range tooLong {
		for kind := 1; kind <= 9; kind++ {
			checkMake(t, "too long a payload", kind, longest[:size], "", api.ErrLong)
		}
	}
}

func TestMakeOfNoKind(t *testing.T) {
	longest := strings.Repeat("\x00", tooLong[len(tooLong)-1])
	for _, kind := range noKinds {
		for _, size := range []int{0, 1, 127, 128, 2041, 2042} {
			checkMake(t, "no kind", kind, longest[:size], "", api.ErrKind)
		}
		for _, size := range tooLong {
			checkMake(t, "no kind, and too long a payload", kind, longest[:size], "", api.ErrKind)
		}
	}
}

// P7.1: Room.

func TestRoom(t *testing.T) {
	for kind := 1; kind <= 9; kind++ {
		if got := Room(kind); got != longestPayload {
			t.Errorf("Room(%d) is %d, want %d", kind, got, longestPayload)
		}
	}
	for _, kind := range noKinds {
		if got := Room(kind); got != 0 {
			t.Errorf("Room(%d) is %d, but there is no such kind", kind, got)
		}
	}
}

func TestRoomIsTheGreatestLength(t *testing.T) {
	for kind := 1; kind <= 9; kind++ {
		room := Room(kind)
		if whole, e := Make(kind, strings.Repeat("r", room)); len(whole) != longestFrame || e != api.OK {
			t.Errorf("Make(%d, %d bytes), for which there is room, is %d bytes, %d", kind, room, len(whole), e)
		}
		checkMake(t, "one byte more than there is room for", kind, strings.Repeat("r", room+1), "", api.ErrLong)
	}
}

// P7.2: Open.

func TestOpen(t *testing.T) {
	for _, c := range frames {
		checkOpen(t, c.what, c.frame, c.kind, c.payload, api.OK)
	}
}

// zeros are as many bytes 0.
func zeros(n int) string {
	return strings.Repeat("\x00", n)
}

func TestOpenOfNoFrame(t *testing.T) {
	for _, c := range []struct {
		what, s string
		e       api.Errno
	}{
		{"a frame but for its 2049 bytes", framed(1, zeros(2043)), api.ErrLong},
		{"a frame but for its 2050 bytes", framed(9, zeros(2044)), api.ErrLong},
		{"a frame but for its very many bytes", framed(1, zeros(1<<21)), api.ErrLong},
		{"the longest frame and a byte behind it", framed(1, zeros(2042)) + "\x00", api.ErrLong},
		{"too long, another first byte", zeros(2049), api.ErrLong},
		{"too long, no such kind", "\x54" + zeros(2048), api.ErrLong},
		{"too long, a kind, no length", "\x54\x01" + strings.Repeat("\xff", 2047), api.ErrLong},
		{"too long, a short frame at its beginning", framed(1, "") + zeros(2044), api.ErrLong},
		{"too long, another checksum", framed(1, zeros(2043))[:2047] + "\x00\x00", api.ErrLong},
		{"very long, another first byte", zeros(1 << 24), api.ErrLong},

		{"the empty string", "", api.ErrEnd},
		{"54 alone", "\x54", api.ErrEnd},

		{"a byte 0 alone", "\x00", api.ErrForm},
		{"a byte 53 alone", "\x53", api.ErrForm},
		{"a byte 55 alone", "\x55", api.ErrForm},
		{"a byte d4 alone", "\xd4", api.ErrForm},
		{"a byte 255 alone", "\xff", api.ErrForm},
		{"another first byte, the rest as in a frame", sum.Append("\x53\x01\x00"), api.ErrForm},
		{"another first byte, no such kind", "\x55\x00\x00\x55\xfe", api.ErrForm},
		{"another first byte, no such kind, cut off", "\x55\x0a", api.ErrForm},
		{"another first byte, no length", "\x01\x01\xff\xff\xff\xff\xff", api.ErrForm},
		{"another first byte, as many as there may be", zeros(2048), api.ErrForm},
		{"a byte before a frame", "\x00\x54\x01\x00\x55\xfe", api.ErrForm},

		{"kind 0, a frame otherwise", framed(0, ""), api.ErrKind},
		{"kind 10, a frame otherwise", framed(10, ""), api.ErrKind},
		{"kind 10, the longest frame otherwise", framed(10, zeros(2042)), api.ErrKind},
		{"kind 0, cut off", "\x54\x00", api.ErrKind},
		{"kind 10, cut off", "\x54\x0a", api.ErrKind},
		{"kind 0, no length", "\x54\x00\xff\xff\xff\xff\xff", api.ErrKind},
		{"kind 0, the length cut off", "\x54\x00\x80", api.ErrKind},
		{"kind 10, fewer bytes than the length says", "\x54\x0a\x05\x00\x00", api.ErrKind},
		{"kind 10, more bytes than the length says", "\x54\x0a\x00\x00\x00\x00", api.ErrKind},
		{"kind 10, another checksum", "\x54\x0a\x00\x00\x00", api.ErrKind},
		{"a frame after another 54", "\x54\x54\x01\x00\x55\xfe", api.ErrKind},

		{"no length", "\x54\x01", api.ErrEnd},
		{"one byte of a length", "\x54\x01\x80", api.ErrEnd},
		{"two bytes of a length", "\x54\x01\xff\xff", api.ErrEnd},
		{"four bytes of a length", "\x54\x01\xff\xff\xff\xff", api.ErrEnd},
		{"a length of five bytes, none the last", "\x54\x01\xff\xff\xff\xff\xff", api.ErrForm},
		{"a length of six bytes", sum.Append("\x54\x01\x80\x80\x80\x80\x80\x01"), api.ErrForm},
		{"the length 0 in two bytes, a frame otherwise", sum.Append("\x54\x01\x80\x00"), api.ErrForm},
		{"the length 1 in two bytes, a frame otherwise", sum.Append("\x54\x01\x81\x00x"), api.ErrForm},
		{"the length 1 in five bytes, a frame otherwise", sum.Append("\x54\x01\x81\x80\x80\x80\x00x"), api.ErrForm},
		{"the length 128 in three bytes, a frame otherwise", sum.Append("\x54\x01\x80\x81\x00" + zeros(128)), api.ErrForm},
		{"the length 127 in two bytes, fewer bytes than that", "\x54\x01\xff\x00", api.ErrForm},
		{"the length 2147483648", sum.Append("\x54\x01\x80\x80\x80\x80\x08"), api.ErrForm},
		{"the greatest length of five bytes", sum.Append("\x54\x01\xff\xff\xff\xff\x7f"), api.ErrForm},

		{"the length 2147483647", sum.Append("\x54\x01\xff\xff\xff\xff\x07"), api.ErrEnd},
		{"the length 2147483646", sum.Append("\x54\x01\xfe\xff\xff\xff\x07"), api.ErrEnd},
		{"the length 2043, as many bytes as there may be", framed(1, zeros(2043))[:2048], api.ErrEnd},
		{"the length 2043, as many bytes, the last two a checksum", sum.Append("\x54\x01\xfb\x0f" + zeros(2042)), api.ErrEnd},
		{"the length 0, no checksum", "\x54\x01\x00", api.ErrEnd},
		{"the length 0, half a checksum", "\x54\x01\x00\x55", api.ErrEnd},
		{"the length 0, another half of a checksum", "\x54\x01\x00\x00", api.ErrEnd},
		{"the length 1, a checksum", sum.Append("\x54\x01\x01"), api.ErrEnd},
		{"the length 3, two bytes and a checksum", sum.Append("\x54\x01\x03ab"), api.ErrEnd},
		{"the length 2, its bytes, no checksum", "\x54\x02\x02ab", api.ErrEnd},
		{"the length in the bytes of the checksum", sum.Append("\x54\x07"), api.ErrEnd},

		{"the length 0, three bytes", "\x54\x01\x00\x55\xfe\x00", api.ErrForm},
		{"the length 0, a byte and the checksum of all", sum.Append("\x54\x01\x00x"), api.ErrForm},
		{"the length 1, two bytes and the checksum of all", sum.Append("\x54\x02\x01ab"), api.ErrForm},
		{"the length 1, two bytes and another checksum", "\x54\x02\x01ab\x00\x00", api.ErrForm},
		{"the length 0, as many bytes as there may be", sum.Append("\x54\x01\x00" + zeros(2043)), api.ErrForm},
		{"the length 2041, one byte more", sum.Append("\x54\x01\xf9\x0f" + zeros(2042)), api.ErrForm},
		{"two frames", framed(1, "") + framed(1, ""), api.ErrForm},

		{"the first byte of the checksum one less", "\x54\x01\x00\x54\xfe", api.ErrSum},
		{"the second byte of the checksum one more", "\x54\x01\x00\x55\xff", api.ErrSum},
		{"both bytes of the checksum exchanged", "\x54\x01\x00\xfe\x55", api.ErrSum},
		{"bytes 0 for the checksum", "\x54\x02\x02ab\x00\x00", api.ErrSum},
		{"the checksum of the payload alone", "\x54\x02\x02ab\xc3\x25", api.ErrSum},
		{"another kind, the checksum from before", "\x54\x02\x00\x55\xfe", api.ErrSum},
		{"letters exchanged, the checksum from before", "\x54\x02\x02ba\x1c\xd8", api.ErrSum},
		{"255 for the first 0 of a checksum", "\x54\x01\x02\xa7\x01\xff\x00", api.ErrSum},
		{"255 for the second 0 of a checksum", "\x54\x01\x02\xa7\x01\x00\xff", api.ErrSum},
		{"255 for both 0 of a checksum", "\x54\x01\x02\xa7\x01\xff\xff", api.ErrSum},
		{"the longest frame with another checksum", framed(1, zeros(2042))[:2046] + "\x00\x00", api.ErrSum},
	} {
		checkOpen(t, c.what, c.s, 0, "", c.e)
	}
}

// P7.2: each first byte, and each kind.

func TestOpenOfEveryFirstByte(t *testing.T) {
	for first := range 256 {
		if first == 0x54 {
			continue
		}
		for _, rest := range []string{"", "\x01", "\x01\x00\x55\xfe", "\x00", "\x01\x80\x00", zeros(2047)} {
			s := string([]byte{byte(first)}) + rest
			checkOpen(t, "another first byte", s, 0, "", api.ErrForm)
			if len(s) <= 2046 {
				checkOpen(t, "another first byte, with a checksum", sum.Append(s), 0, "", api.ErrForm)
			}
		}
	}
}

func TestOpenOfEveryKind(t *testing.T) {
	for kind := range 256 {
		for _, size := range []int{0, 1, 127, 128, 2041, 2042} {
			s := framed(byte(kind), zeros(size))
			if 1 <= kind && kind <= 9 {
				checkOpen(t, "a kind", s, kind, zeros(size), api.OK)
			} else {
				checkOpen(t, "no kind", s, 0, "", api.ErrKind)
			}
		}
	}
}

// wantOpen is what P7.2 says of s.
func wantOpen(s string) (kind int, payload string, e api.Errno) {
	switch {
	case len(s) > 2048:
		return 0, "", api.ErrLong
	case len(s) == 0:
		return 0, "", api.ErrEnd
	case !strings.HasPrefix(s, "\x54"):
		return 0, "", api.ErrForm
	case len(s) == 1:
		return 0, "", api.ErrEnd
	case !strings.Contains("\x01\x02\x03\x04\x05\x06\x07\x08\x09", s[1:2]):
		return 0, "", api.ErrKind
	}
	size, end, e := vari.Take(s, 2)
	if e != api.OK {
		return 0, "", e
	}
	after := s[end:]
	switch {
	case int64(len(after)) < int64(size)+2:
		return 0, "", api.ErrEnd
	case int64(len(after)) > int64(size)+2:
		return 0, "", api.ErrForm
	case framed(s[1], after[:size]) != s:
		return 0, "", api.ErrSum
	}
	return int(s[1]), after[:size], api.OK
}

// checkBoth opens s, and makes the frame again of what it is opened to.
func checkBoth(t *testing.T, s string) api.Errno {
	t.Helper()
	wantKind, wantPayload, wantE := wantOpen(s)
	checkOpen(t, "as P7.2 says", s, wantKind, wantPayload, wantE)
	kind, payload, e := Open(s)
	if e == api.OK {
		checkMake(t, "opened before", kind, payload, s, api.OK)
	}
	if t.Failed() {
		t.FailNow()
	}
	return e
}

// checkAround checks s alone and where a checksum, and what begins a frame,
// stand beside it.
func checkAround(t *testing.T, s string) {
	t.Helper()
	for _, head := range []string{"", "\x54", "\x54\x01"} {
		checkBoth(t, head+s)
		checkBoth(t, sum.Append(head+s))
	}
}

func TestOpenOfShortStrings(t *testing.T) {
	short.Each("\x00\x01\x02\x09\x0a\x54\x80\xff", 5, func(s string) {
		checkAround(t, s)
	})
}

// spoiled returns s with a drawn change.
func spoiled(draws *rand.Rand, s string) string {
	at := draws.Intn(len(s) + 1)
	switch draws.Intn(5) {
	case 0:
		return s[:at]
	case 1:
		return s + s[at:]
	case 2:
		return s[:at] + string([]byte{byte(draws.Intn(256))}) + s[at:]
	case 3:
		return sum.Append(s[:max(len(s)-2, 0)])
	}
	return s[:at] + string([]byte{byte(draws.Intn(12))}) + s[min(at+1, len(s)):]
}

func TestOpenOfSpoiledFrames(t *testing.T) {
	draws := rand.New(rand.NewSource(7))
	var seen [api.ErrKind + 1]int
	for range 100000 {
		bytes := make([]byte, draws.Intn(4<<draws.Intn(10)))
		draws.Read(bytes)
		s := framed(byte(draws.Intn(11)), string(bytes))
		for range draws.Intn(4) {
			s = spoiled(draws, s)
		}
		seen[checkBoth(t, s)]++
	}
	for _, e := range []api.Errno{api.OK, api.ErrEnd, api.ErrLong, api.ErrForm, api.ErrSum, api.ErrKind} {
		if seen[e] == 0 {
			t.Errorf("no drawn string has the error %d: the draws tell nothing of it", e)
		}
	}
}

// P7.3: what was made is opened, what was opened is made.

func TestWhatIsMadeIsOpened(t *testing.T) {
	draws := rand.New(rand.NewSource(73))
	bytes := make([]byte, longestPayload)
	for kind := 1; kind <= 9; kind++ {
		for size := range longestPayload + 1 {
			draws.Read(bytes[:size])
			payload := string(bytes[:size])
			whole, e := Make(kind, payload)
			if e != api.OK || len(whole) > longestFrame {
				t.Fatalf("Make(%d, %d bytes) is %d bytes, %d", kind, size, len(whole), e)
			}
			checkOpen(t, "made before", whole, kind, payload, api.OK)
		}
	}
}

// P7.3: no frame is another one with bytes removed from its end or added to it.

// telling are payloads at whose lengths something changes.
func telling() []string {
	list := []string{"", "\x00", "\xff", "ab", framed(1, ""), framed(2, "ab"), strings.Repeat("\x54\x01\x00\x55\xfe", 9)}
	for _, size := range []int{126, 127, 128, 129, 255, 256, 2040, 2041, 2042} {
		list = append(list, zeros(size), strings.Repeat("\x80", size), strings.Repeat("\x54\x09", size)[:size])
	}
	return list
}

func TestFramesCutOff(t *testing.T) {
	for kind := 1; kind <= 9; kind++ {
		for _, payload := range telling() {
			whole, _ := Make(kind, payload)
			for size := range len(whole) {
				checkOpen(t, "cut off", whole[:size], 0, "", api.ErrEnd)
			}
		}
	}
}

func TestFramesWithBytesBehindThem(t *testing.T) {
	behind := zeros(longestFrame) + strings.Repeat("\x54\x01\x00\x55\xfe", longestFrame)
	for kind := 1; kind <= 9; kind++ {
		for _, payload := range telling() {
			whole, _ := Make(kind, payload)
			for value := range 256 {
				checkBehind(t, whole+string([]byte{byte(value)}))
			}
			for _, size := range []int{2, 3, 5, 2042, 2043, len(behind)} {
				checkBehind(t, whole+behind[:size])
				checkBehind(t, whole+behind[len(behind)-size:])
			}
			checkBehind(t, whole+whole)
			checkBehind(t, whole+sum.Append(whole)[len(whole):])
		}
	}
}

// checkBehind checks that s, a frame and more, is none.
func checkBehind(t *testing.T, s string) {
	t.Helper()
	want := api.ErrForm
	if len(s) > longestFrame {
		want = api.ErrLong
	}
	checkOpen(t, "bytes behind a frame", s, 0, "", want)
}

// P7.2 and P7.3: a frame of which one byte was changed.

// changed returns s with another byte at an index.
func changed(s string, at, value int) string {
	return s[:at] + string([]byte{byte(value)}) + s[at+1:]
}

func TestOneByteOfTheChecksumChanged(t *testing.T) {
	for kind := 1; kind <= 9; kind++ {
		for _, payload := range telling() {
			whole, _ := Make(kind, payload)
			for at := len(whole) - 2; at < len(whole); at++ {
				for value := range 256 {
					if int(whole[at]) != value {
						checkOpen(t, "another checksum", changed(whole, at, value), 0, "", api.ErrSum)
					}
				}
			}
		}
	}
}

// Only 0 and 255 count alike in a checksum: as bytes of a payload they make two
// frames that differ in nothing else.
func TestOneByteOfAFrameChanged(t *testing.T) {
	for _, c := range frames[:len(frames)-1] {
		first := len(c.frame) - 2 - len(c.payload)
		for at := range len(c.frame) - 2 {
			for value := range 256 {
				s := changed(c.frame, at, value)
				if s == c.frame {
					continue
				}
				e := checkBoth(t, s)
				alike := at >= first && int(c.frame[at])%255 == value%255
				if (e == api.OK) != alike {
					t.Fatalf("%s, with %d at %d: the error is %d", c.what, value, at, e)
				}
			}
		}
	}
}
