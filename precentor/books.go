package precentor

import (
	"strings"

	"decani/api"
	"decani/candle"
	"decani/cold"
	"decani/part"
	"decani/voice"
)

// Kinds of what is told, each to the book of its layer.
const (
	ofVoice = iota
	ofCold
	ofPart
	ofCandle
	kinds
)

// told is how many of each kind were told.
type told [kinds]int

var nothing = told{}

// books are what is known, with all that was told.
type books struct {
	voice  api.VoiceBook
	cold   api.ColdBook
	part   api.PartBook
	candle api.CandleBook
}

// setBooks returns the books of a setup, as they are.
func setBooks(s api.PrecentorSetup) books {
	return books{s.Voice, s.Cold, s.Part, s.Candle}
}

// ownBooks returns the books of a setup in new memory, with nothing told.
func ownBooks(s api.PrecentorSetup) books {
	b := setBooks(s).bare()
	b.voice.Boys = copied(b.voice.Boys)
	b.cold.Moves = copied(b.cold.Moves)
	b.part.Voices = copied(b.part.Voices)
	b.candle.Days = copied(b.candle.Days)
	b.candle.Orders = copied(b.candle.Orders)
	return b
}

// ownNames returns the names of a setup in new memory.
func ownNames(s api.PrecentorSetup) []string {
	names := copied(s.Names)
	for i, name := range names {
		names[i] = strings.Clone(name)
	}
	return names
}

// bare returns the books with nothing told.
func (b books) bare() books {
	b.voice.Trials, b.cold.Heard, b.part.Copies, b.candle.Counts = nil, nil, nil, nil
	return b
}

func (b books) told() told {
	return told{len(b.voice.Trials), len(b.cold.Heard), len(b.part.Copies), len(b.candle.Counts)}
}

// layer is what a kind is told to: how many of it its book can have, whether this book is valid, and whether it can be true.
type layer struct {
	most  int
	check func(b books) api.Errno
	right func(b books) (bool, api.Errno)
}

func layers() [kinds]layer {
	return [kinds]layer{
		ofVoice:  {api.VoiceTrials, books.checkVoice, books.rightVoice},
		ofCold:   {api.ColdHears, books.checkCold, books.rightCold},
		ofPart:   {api.PartCopies, books.checkPart, books.rightPart},
		ofCandle: {api.CandleCounts, books.checkCandle, books.rightCandle},
	}
}

func (b books) checkVoice() api.Errno { return voice.Check(b.voice) }

func (b books) checkCold() api.Errno { return cold.Check(b.cold) }

func (b books) checkPart() api.Errno { return part.Check(b.part) }

func (b books) checkCandle() api.Errno { return candle.Check(b.candle) }

func (b books) rightVoice() (bool, api.Errno) { return voice.Right(b.voice) }

func (b books) rightCold() (bool, api.Errno) { return cold.Right(b.cold) }

func (b books) rightPart() (bool, api.Errno) { return part.Right(b.part) }

func (b books) rightCandle() (bool, api.Errno) { return candle.Right(b.candle) }

// with returns a list and one more, in memory that the list does not share: a line that is refused afterwards must not have written on it.
func with[T any](list []T, one T) []T {
	n := len(list)
	return append(list[:n:n], one)
}

// copied returns a list in new memory, without room for more.
func copied[T any](list []T) []T {
	own := append([]T(nil), list...)
	n := len(own)
	return own[:n:n]
}
