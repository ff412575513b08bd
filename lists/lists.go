// Package lists makes lists out of others, which layers do in the same way.
package lists

// Each returns something of each of a list, such as one end of each of some spans.
func Each[T, U any](list []T, of func(T) U) []U {
	all := make([]U, len(list))
	for k, x := range list {
		all[k] = of(x)
	}
	return all
}
