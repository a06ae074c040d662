package spring

import "iter"

// first returns the first key of l whose value fulfils a condition, and whether there is one.
func first[K, V any](l iter.Seq2[K, V], is func(V) bool) (K, bool) {
	for key, value := range l {
		if is(value) {
			return key, true
		}
	}
	var none K
	return none, false
}
