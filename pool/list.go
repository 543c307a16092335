package pool

// kept returns a new list of those elements that are to be kept.
func kept[T any](l []T, keep func(T) bool) []T {
	var rest []T
	for _, x := range l {
		if keep(x) {
			rest = append(rest, x)
		}
	}
	return rest
}

// changed returns a new list of what each element becomes.
func changed[T any](l []T, change func(int, T) T) []T {
	var list []T
	for i, x := range l {
		list = append(list, change(i, x))
	}
	return list
}
