package freight

import "slices"

// shares returns whole shares of an amount by weights: exact shares rounded down, and of what is left one more each for those that were rounded by most. (Numbers that are as great as may be are multiplied to 10^18, which is no more than an int holds.)
func shares(amount int, weights []int) []int {
	all := sum(weights...)
	if all == 0 {
		weights = slices.Repeat([]int{1}, len(weights))
		all = len(weights)
	}
	var list, rests, order []int
	for i, weight := range weights {
		list = append(list, amount*weight/all)
		rests = append(rests, amount*weight%all)
		order = append(order, i)
	}
	slices.SortStableFunc(order, func(a, b int) int { return rests[b] - rests[a] })
	for _, i := range order[:amount-sum(list...)] {
		list[i]++
	}
	return list
}
