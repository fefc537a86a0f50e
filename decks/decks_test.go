package decks

import (
	"fmt"
	"math"
	"math/rand"
	"slices"
	"strings"
	"testing"

	"trident/api"
	"trident/library"
)

// read returns the set of a text without faults.
func read(t *testing.T, s string) *library.Set {
	t.Helper()
	set, fault := library.Read(s)
	if fault != (api.Fault{}) {
		t.Fatalf("%.2000s\nhas the fault %v", s, fault)
	}
	return set
}

// brief writes a list, of which only the first numbers if it is long.
func brief(l []int) string {
	return fmt.Sprintf("%d numbers %v", len(l), l[:min(len(l), 30)])
}

// costOf is the cost of the card with number n in the sets of these tests.
func costOf(n int) int {
	return (n*7 + 3) % 10
}

// setOf returns a set of so many cards, and of locations, which are no cards.
func setOf(t *testing.T, cards int) *library.Set {
	t.Helper()
	var b strings.Builder
	for n := range api.MaxPlaces {
		fmt.Fprintf(&b, "place \"P %d\" { }\n", n)
	}
	for n := range cards {
		fmt.Fprintf(&b, "card \"N %d\" cost %d power %d { }\n", n, costOf(n), n%41-20)
	}
	return read(t, b.String())
}

// costs returns the costs of the cards of a set, as its cards tell them.
func costs(s *library.Set) []int {
	var list []int
	for n := range s.Cards() {
		c, _ := s.Card(n)
		list = append(list, c.Cost)
	}
	return list
}

// span returns the numbers from one to another one, by a step.
func span(from, to, step int) []int {
	var list []int
	for n := from; n != to+step; n += step {
		list = append(list, n)
	}
	return list
}

// with returns l with n at an index, in place of what stands there.
func with(l []int, at, n int) []int {
	l = slices.Clone(l)
	l[at] = n
	return l
}

// strange returns numbers that are no cards of a set of so many: next to its numbers, far
// outside, extreme ones and those of which a number of fewer bits would be a card.
func strange(cards int) []int {
	return []int{
		cards, cards + 1, cards + 128, cards + 1<<8, 1000, 1 << 16, math.MaxInt32, 1 << 32, 1<<32 + 3, math.MaxInt - 1, math.MaxInt,
		-1, -2, -cards - 1, -128, -255, -256, -1 << 16, math.MinInt32, -1 << 32, math.MinInt + 1, math.MinInt,
	}
}

// firstError is what Check answers of a list for a set of so many cards: of the indices at
// which each error holds the first, and of errors at one index the one named first.
func firstError(cards int, l []int) (api.Errno, int) {
	for i := range l {
		switch {
		case i == 12:
			return api.ErrMany, i
		case !slices.Contains(span(0, cards, 1)[:cards], l[i]):
			return api.ErrCard, i
		case slices.Index(l, l[i]) != i:
			return api.ErrTwice, i
		}
	}
	if len(l) < 12 {
		return api.ErrDeck, len(l)
	}
	return api.OK, 0
}

// checkCheck checks what Check answers of a list, twice.
func checkCheck(t *testing.T, what string, s *library.Set, l []int, e api.Errno, at int) {
	t.Helper()
	for range 2 {
		if gotE, gotAt := Check(s, l); gotE != e || gotAt != at {
			t.Fatalf("%s: Check of %s is %d, %d, want %d, %d", what, brief(l), gotE, gotAt, e, at)
		}
	}
}

// checkList checks what Check, Cost and Curve answer of a list for a set with those costs.
func checkList(t *testing.T, what string, s *library.Set, costs []int, l []int) {
	t.Helper()
	e, at := firstError(len(costs), l)
	checkCheck(t, what, s, l, e, at)
	checkCosts(t, what, s, costs, l)
}

// checkCosts checks what Cost and Curve answer of a list for a set with those costs.
func checkCosts(t *testing.T, what string, s *library.Set, costs []int, l []int) {
	t.Helper()
	total, curve := 0, [10]int{}
	for n, cost := range costs {
		for _, one := range l {
			if one == n {
				total += cost
				curve[cost]++
			}
		}
	}
	for range 2 {
		if got := Cost(s, l); got != total {
			t.Fatalf("%s: Cost of %s is %d, want %d", what, brief(l), got, total)
		}
		if got := Curve(s, l); got != curve {
			t.Fatalf("%s: Curve of %s is %v, want %v", what, brief(l), got, curve)
		}
	}
}

// P20.1: 12 different numbers of cards, in any order.
func TestValidDecks(t *testing.T) {
	draws := rand.New(rand.NewSource(20))
	for _, cards := range []int{12, 13, 14, 24, 90, 127, 128} {
		s := setOf(t, cards)
		first, last := span(0, 11, 1), span(cards-12, cards-1, 1)
		for _, l := range [][]int{first, last, span(11, 0, -1), span(cards-1, cards-12, -1)} {
			checkCheck(t, fmt.Sprint(cards, " cards"), s, l, api.OK, 0)
		}
		for range 300 {
			checkCheck(t, fmt.Sprint(cards, " cards"), s, draws.Perm(cards)[:12], api.OK, 0)
		}
	}
}

// P20.1: a deck has 12 numbers.
func TestSizes(t *testing.T) {
	for _, cards := range []int{12, 13, 30, 128} {
		s := setOf(t, cards)
		what := fmt.Sprint(cards, " cards")
		checkCheck(t, what, s, nil, api.ErrDeck, 0)
		checkCheck(t, what, s, []int{}, api.ErrDeck, 0)
		for size := range 12 {
			checkCheck(t, what, s, span(0, 11, 1)[:size], api.ErrDeck, size)
			checkCheck(t, what, s, span(11, 0, -1)[:size], api.ErrDeck, size)
		}
		checkCheck(t, what, s, span(0, 11, 1), api.OK, 0)
		for _, size := range []int{13, 14, 24, 25, 128, 1000, 1 << 20} {
			checkCheck(t, what, s, append(span(0, 11, 1), make([]int, size-12)...), api.ErrMany, 12)
			checkCheck(t, what, s, span(0, size-1, 1), api.ErrMany, 12)
		}
	}
}

// P20.1: of a set with fewer than 12 cards there is no deck.
func TestFewerThan12Cards(t *testing.T) {
	for cards := range 12 {
		s := setOf(t, cards)
		what := fmt.Sprint(cards, " cards")
		all := span(0, cards, 1)[:cards]
		checkCheck(t, what, s, all, api.ErrDeck, cards)
		checkCheck(t, what, s, span(0, 11, 1), api.ErrCard, cards)
		checkCheck(t, what, s, span(0, 20, 1), api.ErrCard, cards)
		checkCheck(t, what, s, append(all, -1), api.ErrCard, cards)
		if cards > 0 {
			checkCheck(t, what, s, append(all, 0), api.ErrTwice, cards)
			checkCheck(t, what, s, append(all, cards-1), api.ErrTwice, cards)
		}
	}
}

// P20.1 and R5: a nil set, a zero one and one of no cards have no card.
func TestSetsWithoutCards(t *testing.T) {
	sets := map[string]*library.Set{"nil": nil, "a zero set": {}, "a set of nothing": read(t, ""), "a set of locations": setOf(t, 0)}
	for what, s := range sets {
		checkCheck(t, what, s, nil, api.ErrDeck, 0)
		checkCheck(t, what, s, span(0, 11, 1), api.ErrCard, 0)
		checkCheck(t, what, s, span(0, 12, 1), api.ErrCard, 0)
		for _, n := range append(strange(0), 0, 1, 11, 45, 89) {
			checkCheck(t, what, s, []int{n}, api.ErrCard, 0)
			checkCheck(t, what, s, []int{n, n}, api.ErrCard, 0)
			checkCosts(t, what, s, nil, []int{n, 0, n})
		}
		checkCosts(t, what, s, nil, nil)
		checkCosts(t, what, s, nil, span(0, 127, 1))
	}
}

// P20.1: numbers at both ends of a set, and numbers outside it, at every index.
func TestNumbersThatAreNoCards(t *testing.T) {
	for _, cards := range []int{1, 11, 12, 13, 60, 90, 127, 128} {
		s := setOf(t, cards)
		what := fmt.Sprint(cards, " cards")
		checkCheck(t, what, s, []int{0}, api.ErrDeck, 1)
		checkCheck(t, what, s, []int{cards - 1}, api.ErrDeck, 1)
		for _, n := range strange(cards) {
			checkCheck(t, what, s, []int{n}, api.ErrCard, 0)
			for at := range min(cards, 12) {
				l := with(span(0, 11, 1), at, n)
				checkCheck(t, what, s, l, api.ErrCard, at)
				checkCheck(t, what, s, l[:at+1], api.ErrCard, at)
				checkCheck(t, what, s, append(l, n, 0), api.ErrCard, at)
			}
		}
	}
}

// P20.1: numbers that occur twice, next to each other and far apart.
func TestNumbersThatOccurTwice(t *testing.T) {
	for _, cards := range []int{12, 13, 128} {
		s := setOf(t, cards)
		what := fmt.Sprint(cards, " cards")
		deck := span(cards-1, cards-12, -1)
		for second := range 12 {
			for first := range second {
				l := with(deck, second, deck[first])
				checkCheck(t, what, s, l, api.ErrTwice, second)
				checkCheck(t, what, s, l[:second+1], api.ErrTwice, second)
				checkCheck(t, what, s, append(l, deck[second]), api.ErrTwice, second)
			}
		}
		checkCheck(t, what, s, make([]int, 12), api.ErrTwice, 1)
		checkCheck(t, what, s, []int{5, 5, 5}, api.ErrTwice, 1)
		checkCheck(t, what, s, []int{5, 6, 6, 5}, api.ErrTwice, 2)
		checkCheck(t, what, s, []int{5, 6, 7, 5, 6, 7}, api.ErrTwice, 3)
	}
}

// P20.1 and R2: number by number, and of one number the error named first.
func TestOrderOfErrors(t *testing.T) {
	s := setOf(t, 20)
	deck := span(0, 11, 1)
	wants := []struct {
		what string
		l    []int
		e    api.Errno
		at   int
	}{
		{"no card before twice", []int{3, 20, 3}, api.ErrCard, 1},
		{"twice before no card", []int{3, 3, 20}, api.ErrTwice, 1},
		{"no card, twice", []int{3, -1, 4, -1}, api.ErrCard, 1},
		{"no card after others that are twice", []int{1, 2, 2, 1, -1}, api.ErrTwice, 2},
		{"too few, no card", []int{1, 2, 20}, api.ErrCard, 2},
		{"too few, twice", []int{1, 2, 1}, api.ErrTwice, 2},
		{"too few, no card at the first place", []int{20}, api.ErrCard, 0},
		{"too few", []int{1, 2, 3}, api.ErrDeck, 3},
		{"too many", append(slices.Clone(deck), 12), api.ErrMany, 12},
		{"the 13th is no card", append(slices.Clone(deck), 20), api.ErrMany, 12},
		{"the 13th is negative", append(slices.Clone(deck), -1), api.ErrMany, 12},
		{"the 13th occurs earlier", append(slices.Clone(deck), 11), api.ErrMany, 12},
		{"the 13th is no card and the 12th neither", append(with(deck, 11, 20), 20), api.ErrCard, 11},
		{"the 13th is no card and the 12th occurs earlier", append(with(deck, 11, 0), 20), api.ErrTwice, 11},
		{"the 14th is no card", append(slices.Clone(deck), 12, 20), api.ErrMany, 12},
		{"the 14th occurs earlier", append(slices.Clone(deck), 12, 12), api.ErrMany, 12},
		{"too many, the first no card", append(with(deck, 0, 99), 12), api.ErrCard, 0},
		{"too many, the second the first", append(with(deck, 1, 0), 12), api.ErrTwice, 1},
		{"the 12th no card", with(deck, 11, 20), api.ErrCard, 11},
		{"the 12th the first", with(deck, 11, 0), api.ErrTwice, 11},
		{"the first no card, the last twice", with(with(deck, 0, 20), 11, 5), api.ErrCard, 0},
		{"the last no card, one before it twice", with(with(deck, 11, 20), 6, 5), api.ErrTwice, 6},
	}
	for _, w := range wants {
		checkCheck(t, w.what, s, w.l, w.e, w.at)
	}
}

// P20.1: all lists of up to 4 telling numbers, alone and behind 9 others, so that some of
// them are the 13th.
func TestShortLists(t *testing.T) {
	s := setOf(t, 13)
	all := costs(s)
	list := [][]int{nil}
	for i := 0; i < len(list); i++ {
		checkList(t, "13 cards", s, all, list[i])
		checkList(t, "13 cards", s, all, append(span(0, 8, 1), list[i]...))
		if len(list[i]) == 4 {
			continue
		}
		for _, n := range []int{0, 8, 9, 10, 11, 12, 13, -1} {
			list = append(list, append(slices.Clone(list[i]), n))
		}
	}
}

// P20.1: drawn lists, with few errors and with many.
func TestDrawnLists(t *testing.T) {
	draws := rand.New(rand.NewSource(201))
	for _, cards := range []int{0, 1, 5, 11, 12, 13, 20, 90, 128} {
		s := setOf(t, cards)
		all := costs(s)
		others := strange(cards)
		for range 2000 {
			l := draws.Perm(max(cards, 14))[:min(draws.Intn(15), 14)]
			for range draws.Intn(4) {
				if len(l) > 0 {
					l[draws.Intn(len(l))] = l[draws.Intn(len(l))]
				}
				if len(l) > 0 && draws.Intn(2) == 0 {
					l[draws.Intn(len(l))] = others[draws.Intn(len(others))]
				}
			}
			checkList(t, fmt.Sprint(cards, " cards"), s, all, l)
		}
	}
}

// P20.1: Cost and Curve of lists of which the results are written out.
func TestCosts(t *testing.T) {
	var b strings.Builder
	for cost := range 10 {
		fmt.Fprintf(&b, "card \"A %d\" cost %d power %d { } card \"B %d\" cost %d power %d { }\n", cost, cost, cost-20, cost, 9-cost, 20-cost)
	}
	s := read(t, b.String())
	wants := []struct {
		what  string
		l     []int
		total int
		curve [10]int
	}{
		{"no numbers", nil, 0, [10]int{}},
		{"cost 0", []int{0}, 0, [10]int{1}},
		{"cost 1", []int{2}, 1, [10]int{0, 1}},
		{"cost 2", []int{4}, 2, [10]int{0, 0, 1}},
		{"cost 3", []int{6}, 3, [10]int{0, 0, 0, 1}},
		{"cost 4", []int{8}, 4, [10]int{0, 0, 0, 0, 1}},
		{"cost 5", []int{10}, 5, [10]int{0, 0, 0, 0, 0, 1}},
		{"cost 6", []int{12}, 6, [10]int{0, 0, 0, 0, 0, 0, 1}},
		{"cost 7", []int{14}, 7, [10]int{0, 0, 0, 0, 0, 0, 0, 1}},
		{"cost 8", []int{16}, 8, [10]int{0, 0, 0, 0, 0, 0, 0, 0, 1}},
		{"cost 9", []int{18}, 9, [10]int{0, 0, 0, 0, 0, 0, 0, 0, 0, 1}},
		{"the first card and the last one", []int{0, 19}, 0, [10]int{2}},
		{"all cards", span(0, 19, 1), 90, [10]int{2, 2, 2, 2, 2, 2, 2, 2, 2, 2}},
		{"all cards backwards", span(19, 0, -1), 90, [10]int{2, 2, 2, 2, 2, 2, 2, 2, 2, 2}},
		{"the same card three times", []int{10, 10, 10}, 15, [10]int{5: 3}},
		{"different cards of one cost", []int{18, 1}, 18, [10]int{9: 2}},
		{"numbers that are no cards", []int{-1, 20, math.MinInt, math.MaxInt, 1 << 32}, 0, [10]int{}},
		{"no card between cards", []int{18, 20, 16, -1, 18}, 26, [10]int{8: 1, 9: 2}},
		{"no card at the beginning", []int{-1, 6}, 3, [10]int{3: 1}},
		{"no card at the end", []int{6, 20}, 3, [10]int{3: 1}},
		{"many more than 12", slices.Repeat([]int{18, 14, -1}, 1000), 16000, [10]int{7: 1000, 9: 1000}},
	}
	for _, w := range wants {
		if got := Cost(s, w.l); got != w.total {
			t.Errorf("%s: Cost is %d, want %d", w.what, got, w.total)
		}
		if got := Curve(s, w.l); got != w.curve {
			t.Errorf("%s: Curve is %v, want %v", w.what, got, w.curve)
		}
	}
}

// P20.1: each card alone, and lists longer than any deck.
func TestCostsOfManyNumbers(t *testing.T) {
	draws := rand.New(rand.NewSource(202))
	for _, cards := range []int{1, 12, 90, 128} {
		s := setOf(t, cards)
		all := costs(s)
		what := fmt.Sprint(cards, " cards")
		for n := -3; n < cards+3; n++ {
			checkCosts(t, what, s, all, []int{n})
			checkCosts(t, what, s, all, []int{n, n})
		}
		for _, size := range []int{13, 100, 1000, 100000} {
			l := make([]int, size)
			for i := range l {
				l[i] = draws.Intn(cards+6) - 3
			}
			checkCosts(t, what, s, all, l)
		}
	}
}

// P20.1: decks of the shipped set.
func TestShippedSet(t *testing.T) {
	s := library.Shipped()
	checkCheck(t, "the first cards", s, span(0, 11, 1), api.OK, 0)
	checkCheck(t, "the last cards", s, span(78, 89, 1), api.OK, 0)
	checkCheck(t, "the last card and one more", s, span(79, 90, 1), api.ErrCard, 11)
	checkCheck(t, "both ends", s, []int{0, 89, 1, 88, 2, 87, 3, 86, 4, 85, 5, 84}, api.OK, 0)
	checkCheck(t, "starter and expansion", s, []int{45, 46, 44, 47, 43, 48, 42, 49, 41, 50, 40, 45}, api.ErrTwice, 11)
	checkCheck(t, "all of them", s, span(0, 89, 1), api.ErrMany, 12)
	if got := Cost(s, []int{s.Find("Wild Hunt")}); got != 5 {
		t.Errorf("Wild Hunt costs %d, want 5", got)
	}
	if got := Cost(s, []int{s.Find("Ash Imp"), s.Find("Wild Hunt"), s.Find("No Such Name")}); got != 6 {
		t.Errorf("Ash Imp and Wild Hunt cost %d, want 6", got)
	}
	all := costs(s)
	draws := rand.New(rand.NewSource(203))
	for range 2000 {
		checkList(t, "the shipped set", s, all, draws.Perm(92)[:draws.Intn(16)])
	}
	checkList(t, "the shipped set", s, all, span(-5, 95, 1))
}
