package settle

// fewest returns the first of the shortest lists of these numbers, in their order, that is enough, if any is.
func fewest(numbers []int, isEnough func(list []int) bool) (found []int, isFound bool) {
	var try func(list, left []int, more int) bool
	try = func(list, left []int, more int) bool {
		if more == 0 {
			found = list
			return isEnough(list)
		}
		for i, n := range left {
			if try(append(list[:len(list):len(list)], n), left[i+1:], more-1) {
				return true
			}
		}
		return false
	}
	for many := range len(numbers) + 1 {
		if try(nil, numbers, many) {
			return found, true
		}
	}
	return nil, false
}
