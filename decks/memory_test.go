package decks

import (
	"fmt"
	"math"
	"slices"
	"sync"
	"testing"

	"trident/api"
	"trident/library"
)

// filled returns l as the beginning of a greater list, and that one.
func filled(l []int) (part, whole []int) {
	whole = append(slices.Clone(l), 71, 72, 73, 74)
	return whole[:len(l)], whole
}

// R3: no call changes a list, nor what is behind its end.
func TestListsAreNotChanged(t *testing.T) {
	s := setOf(t, 40)
	lists := [][]int{
		nil, {0}, {3, 1, 2}, {5, 5}, {40}, {-1, 128}, {math.MinInt, math.MaxInt},
		span(0, 10, 1), span(11, 0, -1), span(20, 32, 1), with(span(0, 11, 1), 11, 0), make([]int, 100),
	}
	for _, l := range lists {
		part, whole := filled(l)
		before := slices.Clone(whole)
		Check(s, part)
		Cost(s, part)
		Curve(s, part)
		Code(part)
		if !slices.Equal(whole, before) {
			t.Errorf("%v is now %v", before, whole)
		}
	}
}

// R3: what is decoded is a new list each time.
func TestDecodedListsAreNew(t *testing.T) {
	first, _ := Uncode("aabbha")
	second, _ := Uncode("aabbha")
	for _, l := range [][]int{first[:cap(first)], second[:cap(second)]} {
		for i := range l {
			l[i] = 77
		}
		checkUncode(t, "aabbha", []int{0, 17}, api.OK)
	}
	first, _ = Uncode("aabbha")
	second, _ = Uncode("aabbha")
	clear(first[:cap(first)])
	if !slices.Equal(second, []int{0, 17}) {
		t.Errorf("a list from before is now %v", second)
	}
}

// R3: a list may be changed after a call.
func TestListsAreNotKept(t *testing.T) {
	s := setOf(t, 40)
	l := span(0, 11, 1)
	code, curve := Code(l), Curve(s, l)
	checkCheck(t, "before", s, l, api.OK, 0)
	for i := range l {
		l[i] = 39
	}
	if code != Code(span(0, 11, 1)) || curve != Curve(s, span(0, 11, 1)) {
		t.Error("a change of a list changes what was answered before")
	}
	checkCheck(t, "after", s, l, api.ErrTwice, 1)
	checkCheck(t, "the list from before", s, span(0, 11, 1), api.OK, 0)
	checkCosts(t, "after", s, costs(s), l)
}

// R4: the answers do not depend on other sets, nor on calls before or at the same time.
func TestAtTheSameTime(t *testing.T) {
	few, many, shipped := setOf(t, 11), setOf(t, 128), library.Shipped()
	var all sync.WaitGroup
	for n := range 8 {
		all.Go(func() {
			for size := range 20 {
				l := span(n, n+size, 1)
				for _, s := range []*library.Set{few, many, shipped, nil} {
					checkSame(t, s, costs(s), l)
				}
				if got, e := Uncode(Code(l)); !slices.Equal(got, l) || e != api.OK {
					t.Errorf("Uncode of %q is %v, %d", Code(l), got, e)
				}
			}
		})
	}
	all.Wait()
}

// checkSame is checkList for goroutines, which may not end a test.
func checkSame(t *testing.T, s *library.Set, costs []int, l []int) {
	t.Helper()
	e, at := firstError(len(costs), l)
	total, curve := 0, [10]int{}
	for _, n := range l {
		if n < len(costs) {
			total += costs[n]
			curve[costs[n]]++
		}
	}
	gotE, gotAt := Check(s, l)
	got := fmt.Sprint(gotE, gotAt, Cost(s, l), Curve(s, l))
	if want := fmt.Sprint(e, at, total, curve); got != want {
		t.Errorf("of %v Check, Cost and Curve are %s, want %s", l, got, want)
	}
}
