package night

import "slices"

// rest returns how much is left of the fee, below 0 if it is not enough.
func (c book) rest(carts int) int { return c.Fee - sum(carts*c.Cost, len(c.Shares)*c.Feast) }

// divide returns what each player is paid of the rest.
func (c book) divide(rest int) []int {
	all := sum(c.Shares...)
	var paid, cut, players []int
	for player, share := range c.Shares {
		paid = append(paid, rest*share/all)
		cut = append(cut, rest*share%all)
		players = append(players, player)
	}
	slices.SortStableFunc(players, func(one, other int) int { return cut[other] - cut[one] })
	left := rest - sum(paid...)
	for _, player := range players[:left:left] {
		paid[player]++
	}
	return paid[:len(paid):len(paid)]
}
