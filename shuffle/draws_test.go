package shuffle

import (
	"fmt"
	"math"
	"math/rand"
	"slices"
	"testing"
)

// leastDraws are the first draws with which the model turns from into to, of all that are
// indices up to the one that they are for, the least ones first.
func leastDraws(from, to []int) ([]int, bool) {
	var least []int
	found := false
	eachDraws(len(from), func(draws []int) bool {
		if slices.Equal(model(from, draws), to) {
			least, found = draws, true
		}
		return !found
	})
	return least, found
}

// checkDraws checks what Draws answers, twice, and that the draws do what they are for.
func checkDraws(t *testing.T, what string, from, to, want []int, ok bool) {
	t.Helper()
	for range 2 {
		got, gotOK := Draws(from, to)
		if !slices.Equal(got, want) || gotOK != ok {
			t.Fatalf("%s: Draws(%v, %v) is %v, %t, want %v, %t", what, brief(from), brief(to), brief(got), gotOK, brief(want), ok)
		}
		if ok {
			checkShuffle(t, what, from, got, to)
		}
	}
}

// checkLeads checks that there are draws from one list to another one, one for each index
// except 0, each of them an index up to its own, and that Shuffle makes the other list of them.
func checkLeads(t *testing.T, what string, from, to []int) {
	t.Helper()
	draws, ok := Draws(from, to)
	if !ok || len(draws) != max(len(from)-1, 0) {
		t.Fatalf("%s: Draws(%v, %v) is %d draws, %t", what, brief(from), brief(to), len(draws), ok)
	}
	for k, d := range draws {
		if i := len(from) - 1 - k; d < 0 || d > i {
			t.Fatalf("%s: Draws(%v, %v) has the draw %d for the index %d", what, brief(from), brief(to), d, i)
		}
	}
	checkShuffle(t, what, from, draws, to)
}

// P21.2: one draw for each index except 0, that for the last index first.
func TestDraws(t *testing.T) {
	for _, c := range []struct {
		what           string
		from, to, want []int
	}{
		{"the chapter's example", []int{1, 2, 3}, []int{2, 3, 1}, []int{0, 0}},
		{"nothing", nil, nil, nil},
		{"nothing, of an empty list", []int{}, nil, nil},
		{"nothing, to an empty list", nil, []int{}, nil},
		{"one number", []int{7}, []int{7}, nil},
		{"two as they are", []int{1, 2}, []int{1, 2}, []int{1}},
		{"two exchanged", []int{1, 2}, []int{2, 1}, []int{0}},
		{"two equal numbers", []int{1, 1}, []int{1, 1}, []int{0}},
		{"three as they are", []int{1, 2, 3}, []int{1, 2, 3}, []int{2, 1}},
		{"three in reverse", []int{1, 2, 3}, []int{3, 2, 1}, []int{0, 1}},
		{"three, the last to the front", []int{1, 2, 3}, []int{3, 1, 2}, []int{1, 0}},
		{"three, two of them equal, as they are", []int{1, 2, 1}, []int{1, 2, 1}, []int{0, 1}},
		{"three, two of them equal, to the end", []int{1, 2, 1}, []int{2, 1, 1}, []int{0, 0}},
		{"three, the equal ones beside each other", []int{1, 1, 2}, []int{1, 1, 2}, []int{2, 0}},
		{"three equal numbers", []int{4, 4, 4}, []int{4, 4, 4}, []int{0, 0}},
		{"four in reverse", []int{1, 2, 3, 4}, []int{4, 3, 2, 1}, []int{0, 1, 1}},
		{"four, each one index down", []int{1, 2, 3, 4}, []int{2, 3, 4, 1}, []int{0, 0, 0}},
		{"four, each one index up", []int{1, 2, 3, 4}, []int{4, 1, 2, 3}, []int{2, 1, 0}},
		{"four, equal ones turn about", []int{1, 2, 1, 2}, []int{2, 1, 2, 1}, []int{0, 0, 0}},
		{"five as they are", []int{10, 20, 30, 40, 50}, []int{10, 20, 30, 40, 50}, []int{4, 3, 2, 1}},
		{"extreme numbers", []int{math.MinInt, math.MaxInt, 0}, []int{0, math.MinInt, math.MaxInt}, []int{1, 0}},
	} {
		checkDraws(t, c.what, c.from, c.to, c.want, true)
	}
}

// P21.2: there are no draws to other numbers, nor to the same ones less or more often.
func TestNoDraws(t *testing.T) {
	for _, c := range []struct {
		what     string
		from, to []int
	}{
		{"from nothing", nil, []int{1}},
		{"to nothing", []int{1}, nil},
		{"from an empty list", []int{}, []int{0}},
		{"to an empty list", []int{0}, []int{}},
		{"another number", []int{1}, []int{2}},
		{"the other sign", []int{1}, []int{-1}},
		{"the extreme numbers", []int{math.MinInt}, []int{math.MaxInt}},
		{"numbers alike in their lower bits", []int{1}, []int{1 + 1<<32}},
		{"a number less", []int{1, 2, 3}, []int{1, 2}},
		{"a number more", []int{1, 2}, []int{1, 2, 3}},
		{"0 more", []int{1, 2}, []int{1, 2, 0}},
		{"a number once more", []int{1, 2}, []int{1, 2, 2}},
		{"a number once less", []int{1, 2, 2}, []int{1, 2}},
		{"another number at the front", []int{1, 2, 3}, []int{4, 2, 3}},
		{"another number in the middle", []int{1, 2, 3}, []int{1, 4, 3}},
		{"another number at the end", []int{1, 2, 3}, []int{1, 2, 4}},
		{"another number, less than all", []int{1, 2, 3}, []int{3, 2, 0}},
		{"the other number twice", []int{1, 1, 2}, []int{1, 2, 2}},
		{"the other number twice, in reverse", []int{2, 1, 1}, []int{2, 2, 1}},
		{"a number three times, not once", []int{1, 1, 1, 2}, []int{1, 2, 2, 2}},
		{"two of each, not three and one", []int{1, 1, 2, 2}, []int{1, 1, 1, 2}},
		{"the same sum", []int{1, 4}, []int{2, 3}},
		{"the same sum and product", []int{1, 5, 8, 12}, []int{2, 3, 10, 8}},
		{"all equal, not all others", []int{5, 5, 5}, []int{6, 6, 6}},
	} {
		checkDraws(t, c.what, c.from, c.to, nil, false)
		checkDraws(t, c.what+", the other way", c.to, c.from, nil, false)
	}
}

// P21.2 and P21.3: to every order of up to five different numbers there are draws, the least
// ones that work.
func TestDrawsToEveryOrder(t *testing.T) {
	for size := range 6 {
		eachOrder(upTo(size), func(to []int) {
			from := upTo(size)
			want, _ := leastDraws(from, to)
			checkDraws(t, "every order", from, to, want, true)
			checkLeads(t, "every order", from, to)
		})
	}
}

// eachList calls f with all lists of so many numbers from 1 to most.
func eachList(size, most int, f func(l []int)) {
	if size == 0 {
		f(nil)
		return
	}
	eachList(size-1, most, func(l []int) {
		for n := range most {
			f(append(slices.Clone(l), n+1))
		}
	})
}

// P21.2: between all lists of up to four numbers, which occur up to four times, and of unlike
// lengths, there are the least draws that work, or none.
func TestDrawsOfShortLists(t *testing.T) {
	var lists [][]int
	for size := range 5 {
		eachList(size, 3, func(l []int) {
			lists = append(lists, l)
		})
	}
	for _, from := range lists {
		for _, to := range lists {
			want, ok := leastDraws(from, to)
			checkDraws(t, "short lists", from, to, want, ok)
		}
	}
}

// P21.2: every order of five numbers of which some are equal.
func TestDrawsWithEqualNumbers(t *testing.T) {
	for _, from := range [][]int{{1, 1, 2, 3, 4}, {1, 2, 3, 4, 1}, {2, 1, 1, 2, 1}, {1, 1, 2, 2, 3}, {3, 2, 2, 1, 1}, {1, 1, 1, 1, 2}, {7, 7, 7, 7, 7}} {
		eachOrder(from, func(to []int) {
			want, ok := leastDraws(from, to)
			checkDraws(t, "equal numbers", from, to, want, ok)
			checkLeads(t, "equal numbers", from, to)
		})
	}
}

// P21.2: with any less number in place of a draw, whatever the later ones, the other list does
// not result.
func TestNoLessDrawWorks(t *testing.T) {
	draws := rand.New(rand.NewSource(5))
	for range 300 {
		from := make([]int, draws.Intn(7))
		for i := range from {
			from[i] = draws.Intn(4)
		}
		to := slices.Clone(from)
		draws.Shuffle(len(to), func(i, j int) { to[i], to[j] = to[j], to[i] })
		least, _ := Draws(from, to)
		for k, d := range least {
			for less := range d {
				eachDraws(len(from)-k-1, func(later []int) bool {
					other := append(append(slices.Clone(least[:k]), less), later...)
					if slices.Equal(Shuffle(from, other), to) {
						t.Fatalf("from %v to %v the draws %v work, not only %v", from, to, other, least)
					}
					return true
				})
			}
		}
	}
}

// P21.2: lists as they are and in reverse. As they are, each of different numbers stays where
// it is; each of equal numbers comes from the first index.
func TestDrawsToTheSameAndToReverse(t *testing.T) {
	for size := range 40 {
		l := upTo(size)
		var stay, first []int
		for i := size - 1; i > 0; i-- {
			stay = append(stay, i)
			first = append(first, 0)
		}
		checkDraws(t, "as they are", l, l, stay, true)
		checkDraws(t, "all equal", make([]int, size), make([]int, size), first, true)
		back := slices.Clone(l)
		slices.Reverse(back)
		checkLeads(t, "in reverse", l, back)
		checkLeads(t, "from reverse", back, l)
	}
}

// P21.2: of shuffled lists, some with equal numbers; a number exchanged for another one of the
// list or for a new one, taken away or added, there are none.
func TestDrawsOfDrawnLists(t *testing.T) {
	draws := rand.New(rand.NewSource(6))
	for n := range 3000 {
		from := make([]int, 1+draws.Intn(40))
		for i := range from {
			from[i] = draws.Intn(1+n%60) - 20
		}
		to := slices.Clone(from)
		draws.Shuffle(len(to), func(i, j int) { to[i], to[j] = to[j], to[i] })
		checkLeads(t, "drawn", from, to)
		at := draws.Intn(len(to))
		other := slices.Clone(to)
		other[at] = from[draws.Intn(len(from))]
		if _, ok := Draws(from, other); ok != (other[at] == to[at]) {
			t.Fatalf("Draws(%v, %v) has the result %t", from, other, ok)
		}
		other[at] = 100
		checkDraws(t, "a new number", from, other, nil, false)
		checkDraws(t, "a number less", from, slices.Delete(slices.Clone(to), at, at+1), nil, false)
		checkDraws(t, "a number more", from, slices.Insert(slices.Clone(to), at, to[at]), nil, false)
	}
}

// P21.2: lists of some thousand numbers, different and equal ones.
func TestDrawsOfManyNumbers(t *testing.T) {
	draws := rand.New(rand.NewSource(7))
	for _, kinds := range []int{1, 2, 100, 1 << 40} {
		from := make([]int, 5000)
		for i := range from {
			from[i] = draws.Intn(kinds)
		}
		to := slices.Clone(from)
		draws.Shuffle(len(to), func(i, j int) { to[i], to[j] = to[j], to[i] })
		checkLeads(t, fmt.Sprint(kinds, " kinds"), from, to)
	}
}
