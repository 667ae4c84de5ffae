package bench

import "slices"

// with returns a new list that has a further element at its end.
func with[T any](list []T, element T) []T {
	longer := make([]T, len(list)+1)
	copy(longer, list)
	longer[len(list)] = element
	return longer
}

// without returns a new list that lacks the element with an index.
func without[T any](list []T, index int) []T {
	return slices.Delete(slices.Clone(list), index, index+1)
}

// replaced returns a new list that has another element at an index.
func replaced[T any](list []T, index int, element T) []T {
	changed := slices.Clone(list)
	changed[index] = element
	return changed
}
