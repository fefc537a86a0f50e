// Package short enumerates short strings, for the tests of the layers.
package short

// Each calls f with every string of at most most of the bytes of alphabet.
func Each(alphabet string, most int, f func(string)) {
	f("")
	if most <= 0 {
		return
	}
	for i := range len(alphabet) {
		Each(alphabet, most-1, func(s string) {
			f(alphabet[i:i+1] + s)
		})
	}
}
