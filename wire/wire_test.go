package wire

import (
	"math"
	"math/rand"
	"strconv"
	"strings"
	"testing"
	"unsafe"

	"trident/api"
	"trident/internal/short"
	"trident/vari"
)

// The kinds of values that are written and read.
const (
	num = iota
	signed
	boolean
	text
	kinds
)

// value is a value of one of the kinds, in its field.
type value struct {
	kind int
	n    int
	b    bool
	s    string
}

// put writes v with w.
func (v value) put(w *Writer) {
	switch v.kind {
	case num:
		w.Num(v.n)
	case signed:
		w.Signed(v.n)
	case boolean:
		w.Bool(v.b)
	case text:
		w.Text(v.s)
	}
}

// take reads a value of the kind of v with bounds that v itself just keeps.
func (v value) take(r *Reader) value {
	got := value{kind: v.kind}
	switch v.kind {
	case num:
		got.n = r.Num(v.n)
	case signed:
		got.n = r.Signed(v.n, v.n)
	case boolean:
		got.b = r.Bool()
	case text:
		got.s = r.Text(len(v.s))
	}
	return got
}

// takeAny reads a value of that kind, with bounds that every encoding keeps.
func takeAny(r *Reader, kind int) value {
	v := value{kind: kind}
	switch kind {
	case num:
		v.n = r.Num(math.MaxInt)
	case signed:
		v.n = r.Signed(math.MinInt, math.MaxInt)
	case boolean:
		v.b = r.Bool()
	case text:
		v.s = r.Text(math.MaxInt)
	}
	return v
}

// written returns what a writer answers at its end after these values.
func written(values ...value) (string, api.Errno) {
	w := Write()
	for _, v := range values {
		v.put(w)
	}
	return w.End()
}

func checkEnd(t *testing.T, what string, w *Writer, want string, wantE api.Errno) {
	t.Helper()
	if got, e := w.End(); got != want || e != wantE {
		t.Errorf("%s: End is % x, %d, want % x, %d", what, got, e, want, wantE)
	}
}

// checkReader checks what a reader tells of itself.
func checkReader(t *testing.T, what string, r *Reader, left int, e api.Errno) {
	t.Helper()
	if got := r.Left(); got != left {
		t.Errorf("%s: Left is %d, want %d", what, got, left)
	}
	if got := r.Err(); got != e {
		t.Errorf("%s: Err is %d, want %d", what, got, e)
	}
}

// checkStuck checks that nothing is read any more and nothing changes.
func checkStuck(t *testing.T, what string, r *Reader, left int, e api.Errno) {
	t.Helper()
	for range 2 {
		if n := r.Num(math.MaxInt); n != 0 {
			t.Errorf("%s: Num after that is %d", what, n)
		}
		if n := r.Signed(math.MinInt, math.MaxInt); n != 0 {
			t.Errorf("%s: Signed after that is %d", what, n)
		}
		if b := r.Bool(); b {
			t.Errorf("%s: Bool after that is true", what)
		}
		if s := r.Text(math.MaxInt); s != "" {
			t.Errorf("%s: Text after that is % x", what, s)
		}
		r.Fail(api.ErrDeck)
		r.Fail(api.OK)
		checkReader(t, what+", and then further reads", r, left, e)
	}
}

// The chapter's example.

func TestExample(t *testing.T) {
	const example = "\xac\x02\x02\x68\x69\x01"
	w := Write()
	w.Num(300)
	w.Text("hi")
	w.Bool(true)
	checkEnd(t, "300, hi, true", w, example, api.OK)

	r := Read(example)
	if n, s, b := r.Num(300), r.Text(2), r.Bool(); n != 300 || s != "hi" || !b {
		t.Errorf("read are %d, %q, %t", n, s, b)
	}
	checkReader(t, "300, hi, true", r, 0, api.OK)
	if e := r.End(); e != api.OK {
		t.Errorf("End is %d", e)
	}
}

// P5.1: what is written, and the error of a writer.

func TestWritten(t *testing.T) {
	for _, c := range []struct {
		values []value
		want   string
	}{
		{nil, ""},
		{[]value{{kind: num}}, "\x00"},
		{[]value{{kind: num, n: 127}}, "\x7f"},
		{[]value{{kind: num, n: 128}}, "\x80\x01"},
		{[]value{{kind: num, n: 2147483647}}, "\xff\xff\xff\xff\x07"},
		{[]value{{kind: signed}}, "\x00"},
		{[]value{{kind: signed, n: -1}}, "\x01"},
		{[]value{{kind: signed, n: -3}}, "\x05"},
		{[]value{{kind: signed, n: 64}}, "\x80\x01"},
		{[]value{{kind: signed, n: 1073741823}}, "\xfe\xff\xff\xff\x07"},
		{[]value{{kind: signed, n: -1073741824}}, "\xff\xff\xff\xff\x07"},
		{[]value{{kind: boolean}}, "\x00"},
		{[]value{{kind: boolean, b: true}}, "\x01"},
		{[]value{{kind: text}}, "\x00"},
		{[]value{{kind: text, s: "\x00"}}, "\x01\x00"},
		{[]value{{kind: text, s: "é\xff"}}, "\x03\xc3\xa9\xff"},
		{[]value{{kind: text, s: strings.Repeat("x", 127)}}, "\x7f" + strings.Repeat("x", 127)},
		{[]value{{kind: text, s: strings.Repeat("x", 128)}}, "\x80\x01" + strings.Repeat("x", 128)},
		{[]value{{kind: text, s: strings.Repeat("yz", 10000)}}, "\xa0\x9c\x01" + strings.Repeat("yz", 10000)},
		{[]value{{kind: num, n: 5}, {kind: signed, n: 5}, {kind: boolean, b: true}, {kind: boolean}, {kind: text, s: "ab"}, {kind: text}, {kind: num, n: 1}}, "\x05\x0a\x01\x00\x02ab\x00\x01"},
	} {
		got, e := written(c.values...)
		if got != c.want || e != api.OK {
			t.Errorf("%v are written as % x, %d, want % x", c.values, got, e, c.want)
		}
	}
}

func TestWriterGoesOnAfterEnd(t *testing.T) {
	w := Write()
	checkEnd(t, "an empty writer", w, "", api.OK)
	w.Num(1)
	first, _ := w.End()
	w.Text("abc")
	checkEnd(t, "1, abc", w, "\x01\x03abc", api.OK)
	checkEnd(t, "1, abc, once more", w, "\x01\x03abc", api.OK)
	w.Num(-1)
	checkEnd(t, "1, abc, -1", w, "", api.ErrRange)
	if first != "\x01" {
		t.Errorf("what End answered first has become % x", first)
	}
}

func TestWritersAreApart(t *testing.T) {
	a, b := Write(), Write()
	a.Num(1)
	b.Num(-1)
	a.Num(2)
	checkEnd(t, "the one", a, "\x01\x02", api.OK)
	checkEnd(t, "the other", b, "", api.ErrRange)
}

// outsideNum are numbers that have no encoding, outsideSigned those that have
// no signed one. Those that an int of 32 bits does not hold wrap around to
// others that have none either.
func outsideNum() []int {
	most := api.MaxSeq
	return []int{-1, -2, -300, math.MinInt32, math.MinInt, math.MinInt + 1, most + 1, most + 2, most + most}
}

func outsideSigned() []int {
	most := api.MaxSeq
	return []int{1073741824, -1073741825, math.MaxInt32, math.MinInt32, math.MaxInt, math.MinInt, most + 1, -most - 2}
}

// failing are values that set the error of a writer.
func failing() []value {
	var list []value
	for _, n := range outsideNum() {
		list = append(list, value{kind: num, n: n})
	}
	for _, n := range outsideSigned() {
		list = append(list, value{kind: signed, n: n})
	}
	return list
}

func TestNumbersWithoutEncoding(t *testing.T) {
	for _, v := range failing() {
		if got, e := written(v); got != "" || e != api.ErrRange {
			t.Errorf("%v is written as % x, %d, want the error %d", v, got, e, api.ErrRange)
		}
	}
}

func TestNothingIsWrittenAfterAnError(t *testing.T) {
	for _, v := range failing() {
		w := Write()
		w.Num(300)
		v.put(w)
		checkEnd(t, "after the error", w, "", api.ErrRange)
		held := len(w.written)
		for _, after := range append(failing(), value{kind: num, n: 1}, value{kind: signed, n: -1}, value{kind: boolean, b: true}, value{kind: boolean}, value{kind: text, s: "abc"}, value{kind: text}) {
			after.put(w)
			checkEnd(t, "after the error and another value", w, "", api.ErrRange)
		}
		if len(w.written) != held {
			t.Errorf("after an error %d bytes became %d", held, len(w.written))
		}
	}
}

// All errors of a writer have the same number, so the first one is told from
// the others within the package only.
func TestFirstErrorOfAWriter(t *testing.T) {
	w := Write()
	w.fail(api.ErrFull)
	w.Num(-1)
	w.Signed(math.MaxInt)
	w.fail(api.ErrNone)
	checkEnd(t, "several errors", w, "", api.ErrFull)
}

func TestTextTooLong(t *testing.T) {
	if strconv.IntSize < 64 {
		t.Skip("no string is that long")
	}
	// Its bytes are never touched, so they take no memory.
	size := api.MaxSeq
	size++
	bytes := make([]byte, size)
	w := Write()
	w.Num(5)
	w.Text(unsafe.String(&bytes[0], len(bytes)))
	checkEnd(t, "a string of 2147483648 bytes", w, "", api.ErrRange)
	if len(w.written) != 1 {
		t.Errorf("of the string %d bytes are written", len(w.written)-1)
	}
}

func TestNilWriter(t *testing.T) {
	var w *Writer
	for _, v := range append(failing(), value{kind: num, n: 1}, value{kind: signed, n: -1}, value{kind: boolean, b: true}, value{kind: text, s: "abc"}) {
		v.put(w)
		checkEnd(t, "a nil writer", w, "", api.ErrArg)
	}
}

func TestZeroWriter(t *testing.T) {
	w := new(Writer)
	checkEnd(t, "a zero writer", w, "", api.OK)
	for _, v := range append(failing(), value{kind: num, n: 1}, value{kind: signed, n: -1}, value{kind: boolean, b: true}, value{kind: text, s: "abc"}) {
		v.put(w)
		checkEnd(t, "a zero writer", w, "", api.OK)
	}
}

// P5.2: single reads, in strings of which some bytes were read already.

// before stands before what is read, and is read first.
const before = "\x80\x01\x02\x7f\xff"

// at returns a reader that has read before and stands at s.
func at(t *testing.T, s string) *Reader {
	t.Helper()
	r := Read(before + s)
	if n, s := r.Num(128), r.Text(2); n != 128 || s != "\x7f\xff" {
		t.Fatalf("% x is read as %d, % x", before, n, s)
	}
	checkReader(t, "before the read", r, len(s), api.OK)
	return r
}

// checkRead checks what a reader is after it has read value, which is left
// bytes from the end of s where there is no error.
func checkRead(t *testing.T, what, s string, r *Reader, left int, e api.Errno) {
	t.Helper()
	if e == api.OK {
		checkReader(t, what, r, left, e)
		return
	}
	checkReader(t, what, r, len(s), e)
	checkStuck(t, what, r, len(s), e)
}

func TestReadNum(t *testing.T) {
	for _, c := range []struct {
		s             string
		most, n, left int
		e             api.Errno
		what          string
	}{
		{"\x00", 0, 0, 0, api.OK, "0 of at most 0"},
		{"\x00", 9, 0, 0, api.OK, "0 of at most 9"},
		{"\x08", 9, 8, 0, api.OK, "one below most"},
		{"\x09", 9, 9, 0, api.OK, "most"},
		{"\x0a", 9, 0, 0, api.ErrRange, "one above most"},
		{"\x01", 0, 0, 0, api.ErrRange, "1 of at most 0"},
		{"\x00", -1, 0, 0, api.OK, "0 of at most -1"},
		{"\x00", math.MinInt, 0, 0, api.OK, "0 of at most the least int"},
		{"\x01", -1, 0, 0, api.ErrRange, "1 of at most -1"},
		{"\x01", math.MinInt, 0, 0, api.ErrRange, "1 of at most the least int"},
		{"\xac\x02", 300, 300, 0, api.OK, "two bytes"},
		{"\xac\x02", 299, 0, 0, api.ErrRange, "two bytes above most"},
		{"\xac\x02\x80\x00", 1000, 300, 2, api.OK, "other bytes after it"},
		{"\xff\xff\xff\xff\x07", 2147483647, 2147483647, 0, api.OK, "the greatest number"},
		{"\xff\xff\xff\xff\x07", math.MaxInt, 2147483647, 0, api.OK, "the greatest number, of at most the greatest int"},
		{"\xff\xff\xff\xff\x07", 2147483646, 0, 0, api.ErrRange, "the greatest number above most"},
		{"", 9, 0, 0, api.ErrEnd, "no bytes"},
		{"", -1, 0, 0, api.ErrEnd, "no bytes of at most -1"},
		{"\x80", 0, 0, 0, api.ErrEnd, "cut off, and above most in any case"},
		{"\xff\xff\xff\xff", 9, 0, 0, api.ErrEnd, "cut off after four bytes"},
		{"\x80\x00", 9, 0, 0, api.ErrForm, "longer than need be"},
		{"\xff\x00", 9, 0, 0, api.ErrForm, "longer than need be, and above most"},
		{"\xff\xff\xff\xff\x08", 9, 0, 0, api.ErrForm, "above all numbers"},
		{"\xff\xff\xff\xff\xff\x01", 9, 0, 0, api.ErrForm, "five bytes, none of them the last"},
	} {
		r := at(t, c.s)
		if n := r.Num(c.most); n != c.n {
			t.Errorf("%s: Num(%d) of % x is %d, want %d", c.what, c.most, c.s, n, c.n)
		}
		checkRead(t, c.what, c.s, r, c.left, c.e)
	}
}

func TestReadSigned(t *testing.T) {
	for _, c := range []struct {
		s                    string
		least, most, n, left int
		e                    api.Errno
		what                 string
	}{
		{"\x00", 0, 0, 0, 0, api.OK, "0 from 0 to 0"},
		{"\x05", -9, 9, -3, 0, api.OK, "a negative number"},
		{"\x06", -9, 9, 3, 0, api.OK, "a positive number"},
		{"\x11", -9, 9, -9, 0, api.OK, "least"},
		{"\x13", -9, 9, 0, 0, api.ErrRange, "one below least"},
		{"\x12", -9, 9, 9, 0, api.OK, "most"},
		{"\x14", -9, 9, 0, 0, api.ErrRange, "one above most"},
		{"\x01", -1, -1, -1, 0, api.OK, "-1 from -1 to -1"},
		{"\x00", -9, -1, 0, 0, api.ErrRange, "0 above a negative most"},
		{"\x03", -9, -1, -2, 0, api.OK, "-2 below a negative most"},
		{"\x00", 1, 9, 0, 0, api.ErrRange, "0 below a positive least"},
		{"\x02", 1, 9, 1, 0, api.OK, "1, a positive least"},
		{"\x00", 1, -1, 0, 0, api.ErrRange, "0 with a least above most"},
		{"\x02", 1, -1, 0, 0, api.ErrRange, "1 with a least above most"},
		{"\x01", 1, -1, 0, 0, api.ErrRange, "-1 with a least above most"},
		{"\x00", math.MaxInt, math.MinInt, 0, 0, api.ErrRange, "the bounds of ints, swapped"},
		{"\xac\x02\x80", -1000, 1000, 150, 1, api.OK, "other bytes after it"},
		{"\xfe\xff\xff\xff\x07", -1, 1073741823, 1073741823, 0, api.OK, "the greatest number"},
		{"\xfe\xff\xff\xff\x07", -1, 1073741822, 0, 0, api.ErrRange, "the greatest number above most"},
		{"\xff\xff\xff\xff\x07", -1073741824, 1, -1073741824, 0, api.OK, "the least number"},
		{"\xff\xff\xff\xff\x07", -1073741823, 1, 0, 0, api.ErrRange, "the least number below least"},
		{"\xff\xff\xff\xff\x07", math.MinInt, math.MaxInt, -1073741824, 0, api.OK, "the least number within the bounds of ints"},
		{"", -9, 9, 0, 0, api.ErrEnd, "no bytes"},
		{"", 9, -9, 0, 0, api.ErrEnd, "no bytes with a least above most"},
		{"\x80", -9, 9, 0, 0, api.ErrEnd, "cut off"},
		{"\x81\x00", -9, 9, 0, 0, api.ErrForm, "longer than need be"},
		{"\xff\xff\xff\xff\x08", 0, 0, 0, 0, api.ErrForm, "below all numbers"},
		{"\xff\xff\xff\xff\xff", -9, 9, 0, 0, api.ErrForm, "five bytes, none of them the last"},
	} {
		r := at(t, c.s)
		if n := r.Signed(c.least, c.most); n != c.n {
			t.Errorf("%s: Signed(%d, %d) of % x is %d, want %d", c.what, c.least, c.most, c.s, n, c.n)
		}
		checkRead(t, c.what, c.s, r, c.left, c.e)
	}
}

func TestReadBool(t *testing.T) {
	for first := range 256 {
		for _, after := range []string{"", "\x00", "\x01\xff"} {
			s := string([]byte{byte(first)}) + after
			wantE := api.OK
			if first > 1 {
				wantE = api.ErrForm
			}
			r := at(t, s)
			if b := r.Bool(); b != (first == 1) {
				t.Errorf("Bool of % x is %t", s, b)
			}
			checkRead(t, "a boolean", s, r, len(after), wantE)
		}
	}
	r := at(t, "")
	if r.Bool() {
		t.Errorf("Bool of no bytes is true")
	}
	checkRead(t, "a boolean at the end", "", r, 0, api.ErrEnd)
}

func TestReadText(t *testing.T) {
	long := strings.Repeat("x", 300)
	for _, c := range []struct {
		s    string
		most int
		want string
		left int
		e    api.Errno
		what string
	}{
		{"\x00", 0, "", 0, api.OK, "an empty string of at most 0"},
		{"\x00", -1, "", 0, api.OK, "an empty string of at most -1"},
		{"\x00ab", 9, "", 2, api.OK, "an empty string, other bytes after it"},
		{"\x02hi", 9, "hi", 0, api.OK, "shorter than most"},
		{"\x02hi", 2, "hi", 0, api.OK, "as long as most"},
		{"\x02hi", 1, "", 0, api.ErrRange, "longer than most"},
		{"\x02hi", 0, "", 0, api.ErrRange, "longer than 0"},
		{"\x02hi", -5, "", 0, api.ErrRange, "longer than a negative most"},
		{"\x02hi", math.MinInt, "", 0, api.ErrRange, "longer than the least int"},
		{"\x02hi", math.MaxInt, "hi", 0, api.OK, "shorter than the greatest int"},
		{"\x02hi!\x80", 9, "hi", 2, api.OK, "other bytes after it"},
		{"\x02\x00\xff", 9, "\x00\xff", 0, api.OK, "bytes that are no UTF-8"},
		{"\xac\x02" + long, 300, long, 0, api.OK, "300 bytes"},
		{"\xac\x02" + long + "xy", 300, long, 2, api.OK, "300 bytes, other bytes after it"},
		{"\xac\x02" + long, 299, "", 0, api.ErrRange, "300 bytes of at most 299"},
		{"\xac\x02" + long[1:], 300, "", 0, api.ErrEnd, "300 bytes, of which one is missing"},
		{"\x02h", 9, "", 0, api.ErrEnd, "one byte is missing"},
		{"\x02", 9, "", 0, api.ErrEnd, "both bytes are missing"},
		{"\x02h", 1, "", 0, api.ErrRange, "longer than most, and a byte is missing"},
		{"\xff\xff\xff\xff\x07ab", 2147483647, "", 0, api.ErrEnd, "the greatest number of bytes"},
		{"\xff\xff\xff\xff\x07ab", 2147483646, "", 0, api.ErrRange, "the greatest number of bytes above most"},
		{"", 9, "", 0, api.ErrEnd, "no bytes"},
		{"\x80", 9, "", 0, api.ErrEnd, "a number that is cut off"},
		{"\x80\x00", 9, "", 0, api.ErrForm, "a number that is longer than need be"},
		{"\xff\xff\xff\xff\xffab", 9, "", 0, api.ErrForm, "no number"},
	} {
		r := at(t, c.s)
		if got := r.Text(c.most); got != c.want {
			t.Errorf("%s: Text(%d) of % x is % x, want % x", c.what, c.most, c.s, got, c.want)
		}
		checkRead(t, c.what, c.s, r, c.left, c.e)
	}
}

func TestFail(t *testing.T) {
	for _, e := range []api.Errno{api.ErrArg, api.ErrEnd, api.ErrForm, api.ErrKind, api.ErrRound, 26, -1} {
		r := Read("\x01\x01")
		r.Fail(api.OK)
		checkReader(t, "Fail with OK", r, 2, api.OK)
		if r.Num(1) != 1 {
			t.Errorf("nothing is read after Fail with OK")
		}
		r.Fail(e)
		checkReader(t, "Fail", r, 1, e)
		r.Fail(api.ErrSide)
		checkReader(t, "Fail after Fail", r, 1, e)
		r.Fail(api.OK)
		checkReader(t, "Fail with OK after Fail", r, 1, e)
		checkStuck(t, "Fail", r, 1, e)
		if got := r.End(); got != e {
			t.Errorf("End after Fail(%d) is %d", e, got)
		}
	}
}

func TestFailAfterAnError(t *testing.T) {
	r := Read("\x05\x05")
	r.Num(4)
	r.Fail(api.ErrKind)
	checkReader(t, "Fail after a number above most", r, 2, api.ErrRange)
}

// What a reader answers hangs on nothing but its own reads.
func TestReadersAreApart(t *testing.T) {
	a, b := Read("\x01\x02"), Read("\x01\x02")
	a.Fail(api.ErrKind)
	if n := b.Num(9); n != 1 {
		t.Errorf("the other reader reads %d", n)
	}
	checkReader(t, "the one", a, 2, api.ErrKind)
	checkReader(t, "the other", b, 1, api.OK)
}

// P5.3: Left, Err and End.

func TestLeftAndErr(t *testing.T) {
	r := Read("\xac\x02\x05\x01\x02hi\x07")
	checkReader(t, "at first", r, 8, api.OK)
	r.Num(300)
	checkReader(t, "after a number", r, 6, api.OK)
	r.Signed(-3, -3)
	checkReader(t, "after a signed number", r, 5, api.OK)
	r.Bool()
	checkReader(t, "after a boolean", r, 4, api.OK)
	r.Text(2)
	checkReader(t, "after a string", r, 1, api.OK)
	r.Bool()
	checkReader(t, "after an error", r, 1, api.ErrForm)
	checkReader(t, "asked once more", r, 1, api.ErrForm)
	checkReader(t, "of no bytes", Read(""), 0, api.OK)
}

func TestEnd(t *testing.T) {
	for _, c := range []struct {
		s    string
		read func(r *Reader)
		e    api.Errno
		left int
		what string
	}{
		{"", func(r *Reader) {}, api.OK, 0, "no bytes"},
		{"\x05", func(r *Reader) { r.Num(5) }, api.OK, 0, "no remaining bytes"},
		{"\x05", func(r *Reader) {}, api.ErrForm, 1, "nothing read"},
		{"\x05\x06", func(r *Reader) { r.Num(5) }, api.ErrForm, 1, "a remaining byte"},
		{"\x05\x06", func(r *Reader) { r.Num(4) }, api.ErrRange, 2, "an error and remaining bytes"},
		{"\x05", func(r *Reader) { r.Num(5); r.Num(5) }, api.ErrEnd, 0, "an error without remaining bytes"},
		{"\x05", func(r *Reader) { r.Fail(api.ErrKind) }, api.ErrKind, 1, "Fail and remaining bytes"},
		{"", func(r *Reader) { r.Fail(api.ErrKind) }, api.ErrKind, 0, "Fail without remaining bytes"},
		{"\x05", func(r *Reader) { r.Fail(api.OK) }, api.ErrForm, 1, "Fail with OK and remaining bytes"},
	} {
		r := Read(c.s)
		c.read(r)
		for range 2 {
			if e := r.End(); e != c.e {
				t.Errorf("%s: End is %d, want %d", c.what, e, c.e)
			}
			checkReader(t, c.what+", after End", r, c.left, c.e)
		}
		if c.e != api.OK {
			checkStuck(t, c.what+", after End", r, c.left, c.e)
		}
	}
}

func TestReadsAfterEnd(t *testing.T) {
	r := Read("")
	r.End()
	r.Num(9)
	checkReader(t, "a read after End", r, 0, api.ErrEnd)
	if e := r.End(); e != api.ErrEnd {
		t.Errorf("End after that is %d", e)
	}
}

func TestNilReader(t *testing.T) {
	var r *Reader
	checkReader(t, "a nil reader", r, 0, api.ErrArg)
	r.Fail(api.ErrKind)
	r.Fail(api.OK)
	checkStuck(t, "a nil reader", r, 0, api.ErrArg)
	for range 2 {
		if e := r.End(); e != api.ErrArg {
			t.Errorf("End of a nil reader is %d", e)
		}
	}
}

func TestZeroReader(t *testing.T) {
	r := new(Reader)
	checkReader(t, "a zero reader", r, 0, api.OK)
	r.Fail(api.ErrKind)
	r.Fail(api.OK)
	checkStuck(t, "a zero reader", r, 0, api.OK)
	for range 2 {
		if e := r.End(); e != api.OK {
			t.Errorf("End of a zero reader is %d", e)
		}
	}
}

// P5.4: what was written is read back; what was read, written again, is
// exactly those bytes.

// checkReadBack checks that the values, written, are read back one by one.
func checkReadBack(t *testing.T, values []value) {
	t.Helper()
	s, e := written(values...)
	if e != api.OK {
		t.Fatalf("%v are not written: %d", values, e)
	}
	r := Read(s)
	left := len(s)
	for _, v := range values {
		if got := v.take(r); got != v {
			t.Fatalf("%v of %v, written as % x, is read back as %v", v, values, s, got)
		}
		alone, _ := written(v)
		left -= len(alone)
		if r.Left() != left || r.Err() != api.OK {
			t.Fatalf("after %v of %v, Left is %d and Err %d, want %d and 0", v, values, r.Left(), r.Err(), left)
		}
	}
	if e := r.End(); e != api.OK || left != 0 {
		t.Fatalf("at the end of %v, %d bytes remain, and End is %d", values, left, e)
	}
}

// draw returns a value with an encoding.
func draw(draws *rand.Rand) value {
	v := value{kind: draws.Intn(kinds)}
	switch v.kind {
	case num:
		v.n = int(draws.Int31()) >> draws.Intn(32)
	case signed:
		v.n = (int(draws.Int31()) - 1<<30) >> draws.Intn(32)
	case boolean:
		v.b = draws.Intn(2) == 1
	case text:
		bytes := make([]byte, draws.Intn(3<<draws.Intn(8)))
		for i := range bytes {
			bytes[i] = byte(draws.Intn(256))
		}
		v.s = string(bytes)
	}
	return v
}

func TestSingleValuesAreReadBack(t *testing.T) {
	for shift := range 31 {
		for _, n := range []int{1<<shift - 1, 1 << shift, 1<<shift + 1} {
			checkReadBack(t, []value{{kind: num, n: n}})
			if shift < 30 {
				checkReadBack(t, []value{{kind: signed, n: n - 1}, {kind: signed, n: -n}})
			}
		}
	}
	checkReadBack(t, nil)
	checkReadBack(t, []value{{kind: num, n: 2147483647}, {kind: signed, n: 1073741823}, {kind: signed, n: -1073741824}, {kind: boolean}, {kind: boolean, b: true}})
	for size := range 300 {
		checkReadBack(t, []value{{kind: text, s: strings.Repeat("\xff", size)}})
	}
	checkReadBack(t, []value{{kind: text, s: strings.Repeat("ab", 100000)}, {kind: text}})
}

func TestDrawnValuesAreReadBack(t *testing.T) {
	draws := rand.New(rand.NewSource(5))
	for range 20000 {
		values := make([]value, draws.Intn(9))
		for i := range values {
			values[i] = draw(draws)
		}
		checkReadBack(t, values)
	}
}

// wantRead is the number of bytes that a read of that kind at the beginning of
// s advances, and its error.
func wantRead(s string, kind int) (int, api.Errno) {
	if kind == boolean {
		if s == "" {
			return 0, api.ErrEnd
		}
		if s[0] > 1 {
			return 0, api.ErrForm
		}
		return 1, api.OK
	}
	n, end, e := vari.Take(s, 0)
	if e != api.OK || kind != text {
		return end, e
	}
	if n > len(s)-end {
		return 0, api.ErrEnd
	}
	return end + n, api.OK
}

// checkWrittenAgain reads values of these kinds and checks that those that were
// read without an error, written again, are the bytes before the reader.
func checkWrittenAgain(t *testing.T, s string, order []int) {
	t.Helper()
	r := Read(s)
	var values []value
	at := 0
	for _, kind := range order {
		size, wantE := wantRead(s[at:], kind)
		v := takeAny(r, kind)
		at += size
		if r.Err() != wantE || r.Left() != len(s)-at {
			t.Fatalf("% x, read as %v: Err is %d and Left %d, want %d and %d", s, order, r.Err(), r.Left(), wantE, len(s)-at)
		}
		if wantE != api.OK {
			if v != (value{kind: kind}) {
				t.Fatalf("% x, read as %v: beside the error %d there is %v", s, order, wantE, v)
			}
			break
		}
		values = append(values, v)
	}
	if got, e := written(values...); got != s[:at] || e != api.OK {
		t.Fatalf("% x, read as %v, is %v, which is written as % x, %d", s, order, values, got, e)
	}
	wantE := r.Err()
	if wantE == api.OK && at < len(s) {
		wantE = api.ErrForm
	}
	if e := r.End(); e != wantE {
		t.Fatalf("% x, read as %v: End is %d, want %d", s, order, e, wantE)
	}
}

// orders are the sequences of at most most kinds.
func orders(most int) [][]int {
	list := [][]int{nil}
	for i := 0; i < len(list); i++ {
		if len(list[i]) == most {
			break
		}
		for kind := range kinds {
			list = append(list, append(append([]int{}, list[i]...), kind))
		}
	}
	return list
}

func TestShortStringsAreWrittenAgain(t *testing.T) {
	all := orders(3)
	short.Each("\x00\x01\x02\x7f\x80\xff", 5, func(s string) {
		for _, order := range all {
			checkWrittenAgain(t, s, order)
		}
	})
}

func TestDrawnBytesAreWrittenAgain(t *testing.T) {
	draws := rand.New(rand.NewSource(54))
	for range 100000 {
		bytes := make([]byte, draws.Intn(40))
		for i := range bytes {
			bytes[i] = byte(draws.Intn(256)) >> draws.Intn(8)
		}
		order := make([]int, draws.Intn(9))
		for i := range order {
			order[i] = draws.Intn(kinds)
		}
		checkWrittenAgain(t, string(bytes), order)
	}
}
