package candle

import (
	"slices"

	"decani/api"
)

func isIn(n, low, high int) bool { return low <= n && n <= high }

func isKind(kind int) bool { return isIn(kind, api.CandleAltar, api.CandleChoir) }

func isDay(b api.CandleBook, day int) bool { return isIn(day, 0, len(b.Days)-1) }

func isPlace(b api.CandleBook, at place) bool { return isKind(at.kind) && isDay(b, at.day) }

func valid(b api.CandleBook) bool {
	if !isIn(len(b.Days), 1, api.CandleDays) || len(b.Orders) > api.CandleOrders || len(b.Counts) > api.CandleCounts {
		return false
	}
	return all(b.Stock[:], validStock) && all(b.Life[:], validLife) && all(b.Days, validDay) &&
		all(b.Orders, func(order api.CandleOrder) bool { return validOrder(b, order) }) &&
		all(b.Counts, func(count api.CandleCount) bool { return validCount(b, count) })
}

// all reports whether something is so of each thing of a list.
func all[T any](list []T, is func(T) bool) bool {
	return !slices.ContainsFunc(list, func(one T) bool { return !is(one) })
}

// isSpan reports whether both ends are in order, from least to most, and no farther apart.
func isSpan(s api.Span, least, most, apart int) bool {
	return isIn(s.Low, least, s.High) && s.High <= most && s.High-s.Low <= apart
}

func validStock(s api.Span) bool { return isSpan(s, 0, api.CandleStock, api.CandleWide) }

func validLife(s api.Span) bool { return isSpan(s, 1, api.CandleLife, api.CandleLean) }

func validLights(lights int) bool { return isIn(lights, 0, api.CandleLights) }

// It can be dark for longer than it is sung.
func validDay(day api.CandleDay) bool {
	return isIn(day.Hours, 0, api.CandleHours) && isSpan(day.Dark, 0, api.CandleHours, api.CandleWide) && all(day.Lights[:], validLights)
}

func validOrder(b api.CandleBook, order api.CandleOrder) bool {
	return isPlace(b, place{order.Kind, order.Day}) && isIn(order.Many, 0, api.CandleMany)
}

func validCount(b api.CandleBook, count api.CandleCount) bool {
	return isPlace(b, place{count.Kind, count.Day}) &&
		isIn(count.Left, api.CandleLeast, api.CandleMost) && isIn(count.Error, 0, api.CandleError)
}
