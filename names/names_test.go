package names

import (
	"bytes"
	"math/rand"
	"slices"
	"strings"
	"testing"

	"trident/internal/short"
)

// listed are lists with what P8.1 says of them, and their distinct names in
// increasing order with their first indices.
var listed = []struct {
	what     string
	list     []string
	order    []int
	twice    int
	distinct []string
	first    []int
}{
	{"the chapter's example", []string{"b", "a", "b"}, []int{1, 0, 2}, 2, []string{"a", "b"}, []int{1, 0}},
	{"nil", nil, nil, -1, nil, nil},
	{"the empty list", []string{}, nil, -1, nil, nil},
	{"one name", []string{"Reed Frog"}, []int{0}, -1, []string{"Reed Frog"}, []int{0}},
	{"the empty string alone", []string{""}, []int{0}, -1, []string{""}, []int{0}},
	{"a byte 0 alone", []string{"\x00"}, []int{0}, -1, []string{"\x00"}, []int{0}},
	{"two names as they are sorted", []string{"a", "b"}, []int{0, 1}, -1, []string{"a", "b"}, []int{0, 1}},
	{"two names the other way round", []string{"b", "a"}, []int{1, 0}, -1, []string{"a", "b"}, []int{1, 0}},
	{"two equal names", []string{"a", "a"}, []int{0, 1}, 1, []string{"a"}, []int{0}},
	{"the empty string twice", []string{"", ""}, []int{0, 1}, 1, []string{""}, []int{0}},
	{"a name three times", []string{"x", "x", "x"}, []int{0, 1, 2}, 1, []string{"x"}, []int{0}},
	{"equal names at the ends", []string{"c", "a", "b", "c"}, []int{1, 2, 0, 3}, 3, []string{"a", "b", "c"}, []int{1, 2, 0}},
	{"the greatest name occurs again before the least", []string{"z", "a", "z", "a"}, []int{1, 3, 0, 2}, 2, []string{"a", "z"}, []int{1, 0}},
	{"the least name occurs again before the greatest", []string{"z", "a", "a", "z"}, []int{1, 2, 0, 3}, 2, []string{"a", "z"}, []int{1, 0}},
	{"the first of several that occur again is no least name", []string{"m", "a", "x", "m", "x", "a"}, []int{1, 5, 0, 3, 2, 4}, 3, []string{"a", "m", "x"}, []int{1, 0, 2}},
	{"the last name occurs again", []string{"d", "c", "b", "a", "b"}, []int{3, 2, 4, 1, 0}, 4, []string{"a", "b", "c", "d"}, []int{3, 2, 1, 0}},
	{"beginnings of each other", []string{"abc", "ab", "a", ""}, []int{3, 2, 1, 0}, -1, []string{"", "a", "ab", "abc"}, []int{3, 2, 1, 0}},
	{"a beginning and a greater byte", []string{"b", "ab", "a", "aa"}, []int{2, 3, 1, 0}, -1, []string{"a", "aa", "ab", "b"}, []int{2, 3, 1, 0}},
	{"the empty string among names", []string{"b", "", "a", ""}, []int{1, 3, 2, 0}, 3, []string{"", "a", "b"}, []int{1, 2, 0}},
	{"bytes 0 at the end", []string{"a\x00", "a", "a\x00\x00", "a\x01"}, []int{1, 0, 2, 3}, -1, []string{"a", "a\x00", "a\x00\x00", "a\x01"}, []int{1, 0, 2, 3}},
	{"bytes 0 alone", []string{"\x00\x00", "\x00", "", "\x01", "\x00"}, []int{2, 1, 4, 0, 3}, 4, []string{"", "\x00", "\x00\x00", "\x01"}, []int{2, 1, 0, 3}},
	{"bytes 0 in the middle", []string{"a\x00b", "a\x00a", "a"}, []int{2, 1, 0}, -1, []string{"a", "a\x00a", "a\x00b"}, []int{2, 1, 0}},
	{"bytes 255", []string{"\xff", "\x00", "\x7f", "\x80", "\xff\xff", "\xfe"}, []int{1, 2, 3, 5, 0, 4}, -1, []string{"\x00", "\x7f", "\x80", "\xfe", "\xff", "\xff\xff"}, []int{1, 2, 3, 5, 0, 4}},
	{"bytes 255 and 0 at an end", []string{"a\xff", "b", "a\x00", "a\xff\x00"}, []int{2, 0, 3, 1}, -1, []string{"a\x00", "a\xff", "a\xff\x00", "b"}, []int{2, 0, 3, 1}},
	{"capitals before small letters", []string{"a", "B", "b", "A", "a b", "0"}, []int{5, 3, 1, 0, 4, 2}, -1, []string{"0", "A", "B", "a", "a b", "b"}, []int{5, 3, 1, 0, 4, 2}},
	{"digits as bytes, not as numbers", []string{"10", "9", "09"}, []int{2, 0, 1}, -1, []string{"09", "10", "9"}, []int{2, 0, 1}},
	{"runes by their bytes", []string{"é", "z", "e\u0301", "\xff", "e"}, []int{4, 2, 1, 0, 3}, -1, []string{"e", "e\u0301", "z", "é", "\xff"}, []int{4, 2, 1, 0, 3}},
	{"no UTF-8, and the rune that stands for it", []string{"\ufffd", "\xff", "\xfe", "\xff"}, []int{0, 2, 1, 3}, 3, []string{"\ufffd", "\xfe", "\xff"}, []int{0, 2, 1}},
	{"spaces count", []string{"a ", " a", "a", "a"}, []int{1, 2, 3, 0}, 3, []string{" a", "a", "a "}, []int{1, 2, 0}},
}

func checkOrder(t *testing.T, what string, list []string, want []int) {
	t.Helper()
	if got := Order(list); !slices.Equal(got, want) {
		t.Errorf("%s: Order(%q) is %d, want %d", what, list, got, want)
	}
}

func checkTwice(t *testing.T, what string, list []string, want int) {
	t.Helper()
	if got := Twice(list); got != want {
		t.Errorf("%s: Twice(%q) is %d, want %d", what, list, got, want)
	}
}

func checkFind(t *testing.T, what string, x *Index, s string, want int) {
	t.Helper()
	if got := x.Find(s); got != want {
		t.Errorf("%s: Find(%q) is %d, want %d", what, s, got, want)
	}
}

func checkLen(t *testing.T, what string, x *Index, want int) {
	t.Helper()
	if got := x.Len(); got != want {
		t.Errorf("%s: Len is %d, want %d", what, got, want)
	}
}

func checkNext(t *testing.T, what string, x *Index, s, want string) {
	t.Helper()
	if got := x.Next(s); got != want {
		t.Errorf("%s: Next(%q) is %q, want %q", what, s, got, want)
	}
}

// P8.1: the order of a list, and what occurs twice.

func TestOrder(t *testing.T) {
	for _, c := range listed {
		checkOrder(t, c.what, c.list, c.order)
	}
}

func TestTwice(t *testing.T) {
	for _, c := range listed {
		checkTwice(t, c.what, c.list, c.twice)
	}
}

// P8.2: Find, Len and Next.

func TestFind(t *testing.T) {
	for _, c := range listed {
		x := New(c.list)
		for i, name := range c.distinct {
			checkFind(t, c.what, x, name, c.first[i])
		}
	}
}

func TestFindOfWhatDoesNotOccur(t *testing.T) {
	for _, c := range listed {
		x := New(c.list)
		for _, s := range around(c.list) {
			if !slices.Contains(c.distinct, s) {
				checkFind(t, c.what, x, s, -1)
			}
		}
	}
}

func TestLen(t *testing.T) {
	for _, c := range listed {
		checkLen(t, c.what, New(c.list), len(c.distinct))
	}
}

func TestNextOfNames(t *testing.T) {
	for _, c := range listed {
		x := New(c.list)
		for i, name := range c.distinct {
			want := ""
			if i+1 < len(c.distinct) {
				want = c.distinct[i+1]
			}
			checkNext(t, c.what, x, name, want)
		}
	}
}

func TestNextOfTheEmptyString(t *testing.T) {
	for _, c := range listed {
		want := ""
		for _, name := range c.distinct {
			if name != "" {
				want = name
				break
			}
		}
		checkNext(t, c.what, New(c.list), "", want)
	}
}

func TestNextOfOtherStrings(t *testing.T) {
	x := New([]string{"delta", "beta", "d", "beta", "\xff", "delta"})
	for _, c := range []struct {
		what, s, want string
	}{
		{"below the least name", "a", "beta"},
		{"the least string but the empty one", "\x00", "beta"},
		{"a beginning of the least name", "bet", "beta"},
		{"just below the least name", "bet`\xff\xff", "beta"},
		{"the least name", "beta", "d"},
		{"just above the least name", "beta\x00", "d"},
		{"the least name and more", "betamax", "d"},
		{"between two names", "c", "d"},
		{"a capital, below all", "D", "beta"},
		{"a name with which the next one begins", "d", "delta"},
		{"just above that name", "d\x00", "delta"},
		{"the greatest name but one", "delta", "\xff"},
		{"between that name and the next one", "de", "delta"},
		{"above a name, though no longer", "delt\xff", "\xff"},
		{"above the letters", "é", "\xff"},
		{"a long string below the greatest name", "\xfe\xff\xff\xff", "\xff"},
		{"the greatest name", "\xff", ""},
		{"just above the greatest name", "\xff\x00", ""},
		{"far above the greatest name", "\xff\xff\xff", ""},
	} {
		checkNext(t, c.what, x, c.s, c.want)
	}
}

// An Index that New did not make.

func TestIndexThatNewDidNotMake(t *testing.T) {
	var zero Index
	copied := zero
	var set struct{ Index }
	for _, c := range []struct {
		what string
		x    *Index
	}{
		{"nil", nil},
		{"a zero value", &zero},
		{"a literal", &Index{}},
		{"what the language's new makes", new(Index)},
		{"a copy of a zero value", &copied},
		{"part of a struct", &set.Index},
	} {
		for range 2 {
			for _, s := range []string{"", "a", "\x00", "\xff", strings.Repeat("x", 70000)} {
				checkFind(t, c.what, c.x, s, -1)
				checkNext(t, c.what, c.x, s, "")
			}
			checkLen(t, c.what, c.x, 0)
		}
	}
}

// Everything held against what the promises say, by holding all names against
// each other.

// below reports whether the name a is less than the name b, byte by byte.
func below(a, b string) bool {
	return bytes.Compare([]byte(a), []byte(b)) < 0
}

// wantOrder puts each index where as many others stand as come before it.
func wantOrder(l []string) []int {
	order := make([]int, len(l))
	for i, name := range l {
		before := 0
		for j, other := range l {
			if below(other, name) || other == name && j < i {
				before++
			}
		}
		order[before] = i
	}
	return order
}

func wantTwice(l []string) int {
	for i, name := range l {
		if slices.Contains(l[:i], name) {
			return i
		}
	}
	return -1
}

func wantLen(l []string) int {
	count := 0
	for i, name := range l {
		if !slices.Contains(l[:i], name) {
			count++
		}
	}
	return count
}

func wantNext(l []string, s string) string {
	least := ""
	for _, name := range l {
		if below(s, name) && (least == "" || below(name, least)) {
			least = name
		}
	}
	return least
}

// around are the names of l, strings just below and above them, and the least
// and the greatest that the tests have.
func around(l []string) []string {
	list := []string{"", "\x00", "a", "m", "\xff", "\xff\xff\xff\xff"}
	for _, name := range l {
		list = append(list, name, name+"\x00", name+"\xff")
		if name != "" {
			last := len(name) - 1
			list = append(list, name[:last], name[:last]+string([]byte{name[last] - 1}), name[:last]+string([]byte{name[last] + 1}))
		}
	}
	return list
}

// checkList checks everything that the package says of l.
func checkList(t *testing.T, what string, l []string) {
	t.Helper()
	checkOrder(t, what, l, wantOrder(l))
	checkTwice(t, what, l, wantTwice(l))
	x := New(l)
	checkLen(t, what, x, wantLen(l))
	for _, s := range around(l) {
		checkFind(t, what, x, s, slices.Index(l, s))
		checkNext(t, what, x, s, wantNext(l, s))
	}
	checkSteps(t, what, x, l)
	if t.Failed() {
		t.Fatalf("%s: of %q", what, l)
	}
}

func TestListed(t *testing.T) {
	for _, c := range listed {
		checkList(t, c.what, c.list)
	}
}

func TestShortLists(t *testing.T) {
	telling := []string{"", "\x00", "a", "a\x00", "ab", "b", "\xff"}
	short.Each("0123456", 5, func(s string) {
		var l []string
		for i := range len(s) {
			l = append(l, telling[s[i]-'0'])
		}
		checkList(t, "a short list", l)
	})
}

// drawn returns n names, of at most as many different ones as kinds.
func drawn(draws *rand.Rand, n, kinds int) []string {
	different := make([]string, kinds)
	for i := range different {
		name := make([]byte, draws.Intn(5))
		for j := range name {
			name[j] = "\x00aabz\x80\xff"[draws.Intn(7)]
		}
		different[i] = string(name)
	}
	l := make([]string, n)
	for i := range l {
		l[i] = different[draws.Intn(kinds)]
	}
	return l
}

func TestDrawnLists(t *testing.T) {
	draws := rand.New(rand.NewSource(8))
	for n := range 80 {
		for _, kinds := range []int{1, 2, 3, 10, 50, 1000} {
			checkList(t, "a drawn list", drawn(draws, n, kinds))
		}
	}
	for _, kinds := range []int{2, 30, 5000} {
		checkList(t, "a long drawn list", drawn(draws, 600, kinds))
	}
}

// Sorts keep equal items in their order by chance where items are few.
func TestOrderOfManyEqualNames(t *testing.T) {
	for _, n := range []int{12, 13, 20, 21, 49, 50, 51, 100, 1000, 20000} {
		l := make([]string, n)
		var want []int
		for k, name := range []string{"a", "b", "c"} {
			for i := (3 - k) % 3; i < n; i += 3 {
				l[i] = name
				want = append(want, i)
			}
		}
		checkOrder(t, "three names in turn", l, want)
		checkTwice(t, "three names in turn", l, 3)
		checkLen(t, "three names in turn", New(l), 3)
	}
}

// TestManyNames has more names than could be held against each other.
func TestManyNames(t *testing.T) {
	const n = 200000
	name := func(i int) string {
		return string([]byte{byte(i >> 16), byte(i >> 8), byte(i)})
	}
	l := make([]string, n)
	want := make([]int, n)
	for i := range l {
		l[i] = name(n - i)
		want[i] = n - 1 - i
	}
	if !slices.Equal(Order(l), want) {
		t.Errorf("Order of many names is not the other way round")
	}
	if got := Twice(l); got != -1 {
		t.Errorf("Twice of many names is %d, want -1", got)
	}
	x := New(l)
	checkLen(t, "many names", x, n)
	for i := range n {
		if got := x.Find(name(n - i)); got != i {
			t.Fatalf("Find of name %d of many is %d", i, got)
		}
		if got := x.Next(name(i)); got != name(i+1) {
			t.Fatalf("Next of name %d of many is % x", i, got)
		}
	}
	if got := Twice(append(l, name(1))); got != n {
		t.Errorf("Twice of many names, and one of them again, is %d, want %d", got, n)
	}
}

func TestLongNames(t *testing.T) {
	long := strings.Repeat("x", 70000)
	checkList(t, "long names that begin alike", []string{long + "b", long, long + "a", long + "b", long[1:], long + "\x00", long + "\xff"})
}

// P8.3: all names, one after the other.

// checkSteps goes from the empty string on by Next: it must come to all names of
// l that are not empty, once each, and find each of them.
func checkSteps(t *testing.T, what string, x *Index, l []string) {
	t.Helper()
	before, count := "", 0
	for name := x.Next(""); name != ""; name = x.Next(name) {
		if !below(before, name) {
			t.Fatalf("%s: Next(%q) is %q, which is not greater", what, before, name)
		}
		at := x.Find(name)
		if at < 0 || at >= len(l) || l[at] != name {
			t.Fatalf("%s: Find(%q), which Next returned, is %d", what, name, at)
		}
		before = name
		count++
	}
	want := x.Len()
	if slices.Contains(l, "") {
		want--
	}
	if count != want {
		t.Errorf("%s: Next returns %d names one after the other, want %d", what, count, want)
	}
}

func TestStepsOverNames(t *testing.T) {
	for _, c := range listed {
		var got []string
		x := New(c.list)
		for name := x.Next(""); name != ""; name = x.Next(name) {
			got = append(got, name)
			if len(got) > len(c.list) {
				t.Fatalf("%s: Next does not come to an end: %q", c.what, got)
			}
			if x.Find(name) < 0 {
				t.Errorf("%s: %q is not found", c.what, name)
			}
		}
		want := slices.Clone(c.distinct)
		if len(want) > 0 && want[0] == "" {
			want = want[1:]
		}
		if !slices.Equal(got, want) {
			t.Errorf("%s: Next returns %q one after the other, want %q", c.what, got, want)
		}
	}
}

// R3, R4 and R5: memory, and what depends on earlier calls.

func TestListsAreNotChanged(t *testing.T) {
	for _, c := range listed {
		// The names behind the list may not be changed either.
		whole := append(slices.Clone(c.list), "y", "\x00", "x")
		want := slices.Clone(whole)
		l := whole[:len(c.list)]
		Order(l)
		Twice(l)
		x := New(l)
		x.Find("y")
		x.Len()
		x.Next("")
		if !slices.Equal(whole, want) {
			t.Errorf("%s: the list and what lies behind it are %q, were %q", c.what, whole, want)
		}
	}
}

func TestIndexKeepsNoList(t *testing.T) {
	for _, c := range listed {
		l := slices.Clone(c.list)
		x := New(l)
		for i := range l {
			l[i] = "changed afterwards"
		}
		what := c.what + ", changed afterwards"
		for i, name := range c.distinct {
			checkFind(t, what, x, name, c.first[i])
		}
		checkFind(t, what, x, "changed afterwards", -1)
		checkLen(t, what, x, len(c.distinct))
		checkSteps(t, what, x, c.list)
	}
}

func TestOrderIsNewMemory(t *testing.T) {
	for _, c := range listed {
		first, second := Order(c.list), Order(c.list)
		for i := range first {
			first[i] = -7
		}
		if !slices.Equal(second, c.order) {
			t.Errorf("%s: with another result changed, Order is %d, want %d", c.what, second, c.order)
		}
		checkOrder(t, c.what+", a result of before changed", c.list, c.order)
	}
}

func TestCallsChangeNoIndex(t *testing.T) {
	x := New([]string{"b", "a", "b", ""})
	other := New([]string{"c", "a"})
	for range 3 {
		checkFind(t, "asked again", x, "b", 0)
		checkFind(t, "asked again", x, "", 3)
		checkFind(t, "asked again", x, "c", -1)
		checkNext(t, "asked again", x, "a", "b")
		checkNext(t, "asked again", x, "b", "")
		checkLen(t, "asked again", x, 3)
		checkFind(t, "the other index", other, "b", -1)
		checkFind(t, "the other index", other, "c", 0)
		checkNext(t, "the other index", other, "a", "c")
		checkLen(t, "the other index", other, 2)
	}
}
