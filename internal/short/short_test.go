package short

import (
	"slices"
	"testing"
)

func TestEach(t *testing.T) {
	for _, c := range []struct {
		alphabet string
		most     int
		want     []string
	}{
		{"ab", 2, []string{"", "a", "aa", "ab", "b", "ba", "bb"}},
		{"\xff", 3, []string{"", "\xff", "\xff\xff", "\xff\xff\xff"}},
		{"ab", 0, []string{""}},
		{"ab", -1, []string{""}},
		{"", 2, []string{""}},
	} {
		var got []string
		Each(c.alphabet, c.most, func(s string) {
			got = append(got, s)
		})
		if !slices.Equal(got, c.want) {
			t.Errorf("the strings of at most %d of %q are %q, want %q", c.most, c.alphabet, got, c.want)
		}
	}
}
