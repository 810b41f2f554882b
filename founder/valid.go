package founder

import (
	"slices"

	"decani/api"
	"decani/office"
)

// none stands for no feast, the rank of a day without one, no day, and no gift.
const none = -1

func isIn(n, low, high int) bool { return low <= n && n <= high }

func isGift(b api.FounderBook, gift int) bool { return isIn(gift, 0, len(b.Gifts)-1) }

func isDay(b api.FounderBook, day int) bool { return isIn(day, 0, b.Office.Days-1) }

func valid(b api.FounderBook) bool {
	return office.Check(b.Office) == api.OK && isIn(len(b.Gifts), 1, api.FounderGifts) && !slices.ContainsFunc(b.Gifts, isWrong)
}

func isWrong(g api.FounderGift) bool {
	return !isIn(g.Use, 0, 1) || !isIn(g.Upto, none, api.OfficeRanks-1) ||
		!isIn(g.Services, 1, api.FounderServices) || !isIn(g.Pence, 1, api.FounderPence)
}
