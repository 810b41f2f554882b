package precentor

import (
	"slices"

	"decani/api"
	"decani/candle"
	"decani/cold"
	"decani/part"
	"decani/voice"
)

func isLetter(c byte) bool { return 'a' <= c && c <= 'z' }

func isDigit(c byte) bool { return '0' <= c && c <= '9' }

func isName(name string) bool {
	if len(name) == 0 || len(name) > api.MaxName || !isLetter(name[0]) {
		return false
	}
	for i := range len(name) {
		if !isLetter(name[i]) && !isDigit(name[i]) {
			return false
		}
	}
	return true
}

func valid(s api.PrecentorSetup) bool {
	return setBooks(s).told() == nothing && validBooks(s) && validNames(s)
}

func validBooks(s api.PrecentorSetup) bool {
	if voice.Check(s.Voice) != api.OK || cold.Check(s.Cold) != api.OK || candle.Check(s.Candle) != api.OK {
		return false
	}
	// Of a part that is not valid Right says that it cannot be true.
	right, _ := part.Right(s.Part)
	return right
}

func validNames(s api.PrecentorSetup) bool {
	if len(s.Names) != len(s.Voice.Boys) || len(s.Names) != s.Cold.Beds {
		return false
	}
	for i, name := range s.Names {
		if !isName(name) || slices.Contains(s.Names[:i], name) {
			return false
		}
	}
	return true
}
