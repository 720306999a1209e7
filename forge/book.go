package forge

import "saron/api"

// api tells no greatest tin, and no greatest number of bars of all lots.
const (
	mostTin  = 1000
	mostBars = api.ForgeLots * api.ForgeBars
)

// book is a book in the calculation: it knows how many bars each lot has and, if it was asked for them, all its truths.
type book struct {
	api.ForgeBook
	stock  lots
	truths []disc
}

func newBook(b api.ForgeBook) book {
	c := book{ForgeBook: b}
	for lot := range b.Lots {
		c.stock[lot] = b.Lots[lot].Bars
	}
	return c
}

// bounded is a span, and between what it must lie.
type bounded struct {
	span      api.Span
	low, high int
}

// lie reports whether the Low of no span is above its High, and all lie where they must.
func lie(list []bounded) bool {
	for _, x := range list {
		if x.span.Low > x.span.High || x.span.Low < x.low || x.span.High > x.high {
			return false
		}
	}
	return true
}

func isValid(b api.ForgeBook) bool {
	// The numbers of lots, strikers and looks come first: no longer list is gone through.
	numbers := []bounded{
		{only(len(b.Lots)), 1, api.ForgeLots},
		{only(len(b.Thins)), api.ForgeStrikers, api.ForgeStrikers},
		{only(len(b.Looks)), 0, api.ForgeLooks},
		{b.Tin, 0, mostTin},
		{only(b.Thick), 1, api.ForgeThick},
		{only(b.Crack), 0, api.ForgeThick},
		{b.Goal, 0, api.ForgeThick},
		{only(b.Hot), 0, api.ForgeHot},
		{only(b.Least), 0, b.Hot},
		{b.Cool, 1, api.ForgeCool},
		{only(b.Coal), 0, api.ForgeCoal},
	}
	return lie(numbers) && lie(boundsOfLists(b))
}

func boundsOfLists(b api.ForgeBook) []bounded {
	var list []bounded
	for _, lot := range b.Lots {
		list = append(list, bounded{only(lot.Bars), 0, api.ForgeBars}, bounded{lot.Tin, 0, mostTin})
	}
	for _, thin := range b.Thins {
		list = append(list, bounded{thin, 1, api.ForgeThin})
	}
	for _, look := range b.Looks {
		list = append(list,
			bounded{only(look.Blows), 0, api.ForgeBlows},
			bounded{only(look.Thick), 0, api.ForgeThick},
			bounded{only(look.Err), 0, api.ForgeErr})
	}
	return list
}
