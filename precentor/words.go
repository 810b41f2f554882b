package precentor

import (
	"strconv"
	"strings"

	"decani/api"
	"decani/candle"
	"decani/cold"
	"decani/part"
	"decani/voice"
)

// boy is one of the setup, who has a number in the book of voices, and the bed of this number.
type boy struct {
	name   string
	number int
}

// nobody is the boy of a name that no boy has.
var nobody = boy{number: -1}

// said is what a line says behind its word.
type said struct {
	boy     boy
	numbers []int
}

// What lines tell.

func (b books) sang(s said) books { return b.tried(s, 1) }

func (b books) failed(s said) books { return b.tried(s, 0) }

func (b books) tried(s said, sang int) books {
	b.voice.Trials = with(b.voice.Trials, api.VoiceTrial{Boy: s.boy.number, Week: s.numbers[0], Note: s.numbers[1], Sang: sang})
	return b
}

func (b books) cough(s said) books { return b.heard(s, true) }

func (b books) still(s said) books { return b.heard(s, false) }

func (b books) heard(s said, cough bool) books {
	b.cold.Heard = with(b.cold.Heard, api.ColdHeard{Bed: s.boy.number, Day: s.numbers[0], Cough: cough})
	return b
}

func (b books) copy(s said) books {
	b.part.Copies = with(b.part.Copies, api.PartCopy{Voice: s.numbers[0], Notes: copied(s.numbers[1:])})
	return b
}

func (b books) count(s said) books {
	b.candle.Counts = with(b.candle.Counts, api.CandleCount{Kind: s.numbers[0], Day: s.numbers[1], Left: s.numbers[2], Error: s.numbers[3]})
	return b
}

// What lines ask.

func (b books) breaks(s said) (string, api.Errno) { return span(voice.Breaks(b.voice, s.boy.number)) }

func (b books) lowest(s said) (string, api.Errno) { return span(voice.Lowest(b.voice, s.boy.number)) }

func (b books) highest(s said) (string, api.Errno) {
	return span(voice.Highest(b.voice, s.boy.number, s.numbers[0]))
}

func (b books) sings(s said) (string, api.Errno) {
	return number(voice.Sings(b.voice, s.boy.number, s.numbers[0], s.numbers[1]))
}

func (b books) surely(s said) (string, api.Errno) {
	return list(voice.Surely(b.voice, s.numbers[0], s.numbers[1]))
}

func (b books) must(s said) (string, api.Errno) { return list(voice.Must(b.voice, s.numbers[0])) }

func (b books) heir(s said) (string, api.Errno) {
	low, high := s.numbers[1], s.numbers[2]
	return number(voice.Heir(b.voice, s.boy.number, s.numbers[0], api.Span{Low: low, High: high}))
}

func (b books) ill(s said) (string, api.Errno) {
	return number(cold.Ill(b.cold, s.boy.number, s.numbers[0]))
}

func (b books) coughs(s said) (string, api.Errno) {
	return number(cold.Coughs(b.cold, s.boy.number, s.numbers[0]))
}

func (b books) caught(s said) (string, api.Errno) { return span(cold.Caught(b.cold, s.boy.number)) }

func (b books) from(said) (string, api.Errno) { return list(cold.From(b.cold)) }

func (b books) clean(said) (string, api.Errno) { return list(cold.Clean(b.cold)) }

func (b books) apart(s said) (string, api.Errno) { return list(cold.Apart(b.cold, s.numbers[0])) }

func (b books) ways(said) (string, api.Errno) { return number(part.Ways(b.part)) }

func (b books) notes(s said) (string, api.Errno) {
	return list(part.Notes(b.part, s.numbers[0], s.numbers[1]))
}

func (b books) line(s said) (string, api.Errno) { return list(part.Line(b.part, s.numbers[0])) }

func (b books) first(said) (string, api.Errno) { return place(part.First(b.part)) }

func (b books) look(said) (string, api.Errno) { return place(part.Ask(b.part)) }

func (b books) left(s said) (string, api.Errno) {
	return span(candle.Left(b.candle, s.numbers[0], s.numbers[1]))
}

func (b books) life(s said) (string, api.Errno) { return span(candle.Life(b.candle, s.numbers[0])) }

func (b books) dark(s said) (string, api.Errno) { return span(candle.Dark(b.candle, s.numbers[0])) }

func (b books) short(s said) (string, api.Errno) { return number(candle.Short(b.candle, s.numbers[0])) }

func (b books) buy(s said) (string, api.Errno) {
	return number(candle.Buy(b.candle, s.numbers[0], s.numbers[1]))
}

// Answers, each with the error of what was asked.

func span(s api.Span, e api.Errno) (string, api.Errno) { return answer(s.Low, s.High), e }

func number(n int, e api.Errno) (string, api.Errno) { return answer(n), e }

func place(voice, note int, e api.Errno) (string, api.Errno) { return answer(voice, note), e }

func list(l []int, e api.Errno) (string, api.Errno) { return answer(l...), e }

func answer(numbers ...int) string {
	if len(numbers) == 0 {
		return "-"
	}
	var words []string
	for _, n := range numbers {
		words = append(words, strconv.Itoa(n))
	}
	return strings.Join(words, " ")
}
