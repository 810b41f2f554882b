package strain

import (
	"slices"

	"decani/api"
)

func isIn(n, low, high int) bool { return low <= n && n <= high }

func isSinger(b api.StrainBook, singer int) bool { return isIn(singer, 0, len(b.Singers)-1) }

func isDay(b api.StrainBook, day int) bool { return isIn(day, 0, len(b.Days)-1) }

func isKind(kind int) bool { return isIn(kind, api.StrainPlain, api.StrainNight) }

func valid(b api.StrainBook) bool {
	if !isIn(len(b.Singers), 1, api.StrainSingers) || !isIn(len(b.Days), 1, api.StrainDays) {
		return false
	}
	if len(b.Rests) > api.StrainRests || len(b.Signs) > api.StrainSigns {
		return false
	}
	return all(b.Singers, validStrength) && all(b.Costs[:], validCost) && all(b.Days, validDay) &&
		all(b.Rests, func(rest api.StrainRest) bool { return validRest(b, rest) }) &&
		all(b.Signs, func(sign api.StrainSign) bool { return validSign(b, sign) })
}

// all reports whether something is so of each thing of a list.
func all[T any](list []T, is func(T) bool) bool {
	return !slices.ContainsFunc(list, func(one T) bool { return !is(one) })
}

// isSpan reports whether both ends are in order, from 0 to most, and no farther apart.
func isSpan(s api.Span, most, apart int) bool {
	return isIn(s.Low, 0, s.High) && s.High <= most && s.High-s.Low <= apart
}

func validStrength(s api.Span) bool { return isSpan(s, api.StrainStrength, api.StrainWide) }

func validCost(s api.Span) bool { return isSpan(s, api.StrainCost, api.StrainLean) }

// A day can need as many singers as there can be, whether there are so many or not.
func validDay(day api.StrainDay) bool {
	return isIn(day.Plain, 0, api.StrainServices) && isIn(day.Full, 0, api.StrainServices) && isIn(day.Needs, 0, api.StrainSingers)
}

func validRest(b api.StrainBook, rest api.StrainRest) bool {
	return isDay(b, rest.Day) && isSinger(b, rest.Singer)
}

func validSign(b api.StrainBook, sign api.StrainSign) bool {
	return isSinger(b, sign.Singer) && isDay(b, sign.Day) &&
		isIn(sign.Left, api.StrainLeast, api.StrainStrength) && isIn(sign.Error, 0, api.StrainError)
}
