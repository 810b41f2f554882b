package office

import "decani/api"

// none stands for no feast, no portion, no rule, and no day.
const none = -1

func isIn(n, low, high int) bool { return low <= n && n <= high }

func isUse(use int) bool { return isIn(use, 0, 1) }

func isDay(b api.OfficeBook, day int) bool { return isIn(day, 0, b.Days-1) }

func isFeast(b api.OfficeBook, feast int) bool { return isIn(feast, 0, len(b.Feasts)-1) }

func isRank(rank int) bool { return isIn(rank, 0, api.OfficeRanks-1) }

func valid(b api.OfficeBook) bool {
	if !isIn(b.Days, 1, api.OfficeDays) || !isIn(b.First, 0, api.OfficeRound-1) {
		return false
	}
	if len(b.Feasts) > api.OfficeFeasts || len(b.Notes) > api.OfficeNotes {
		return false
	}
	for _, f := range b.Feasts {
		if !validFeast(b, f) {
			return false
		}
	}
	for _, n := range b.Notes {
		if !validNote(b, n) {
			return false
		}
	}
	return validUse(b.Uses[0]) && validUse(b.Uses[1])
}

// validFeast looks at both ends before it looks at how far they are apart, so that their difference is a small number.
func validFeast(b api.OfficeBook, f api.OfficeFeast) bool {
	if !isDay(b, f.Day.Low) || !isDay(b, f.Day.High) {
		return false
	}
	return isIn(f.Day.High-f.Day.Low, 0, api.OfficeWide) && isRank(f.Rank)
}

func validUse(u api.OfficeUse) bool {
	if len(u.Rules) > api.OfficeRules {
		return false
	}
	for _, r := range u.Rules {
		if !isRank(r.Rank) || !isRank(r.To) || !isIn(r.Does, api.OfficeOut, api.OfficeToo) {
			return false
		}
	}
	return true
}

func validNote(b api.OfficeBook, n api.OfficeNote) bool {
	return isUse(n.Use) && isDay(b, n.Day) && (n.Chief == none || isFeast(b, n.Chief))
}
