package voice_test

import (
	"math"
	"slices"
	"testing"

	"decani/api"
	"decani/voice"
)

func span(low, high int) api.Span { return api.Span{Low: low, High: high} }

func trial(boy, week, note, sang int) api.VoiceTrial {
	return api.VoiceTrial{Boy: boy, Week: week, Note: note, Sang: sang}
}

type change func(b *api.VoiceBook)

func trials(l ...api.VoiceTrial) change { return func(b *api.VoiceBook) { b.Trials = l } }

// boys gives each book its own list, which a further change may change.
func boys(l ...api.VoiceBoy) change {
	return func(b *api.VoiceBook) { b.Boys = slices.Clone(l) }
}

func weeks(n int) change { return func(b *api.VoiceBook) { b.Weeks = n } }

// boy changes the boy of a number.
func boy(n int, c func(v *api.VoiceBoy)) change {
	return func(b *api.VoiceBook) { c(&b.Boys[n]) }
}

// plain is a boy of whom all is known: he sings 10 to 20, gains nothing, and his voice breaks in the week 9.
func plain() api.VoiceBoy {
	return api.VoiceBoy{Low: span(10, 10), High: span(20, 20), Break: span(9, 9)}
}

// book is that of the chapter's examples, changed.
func book(changes ...change) api.VoiceBook {
	b := api.VoiceBook{
		Boys: []api.VoiceBoy{
			{Low: span(5, 6), High: span(20, 21), Gain: span(1, 2), Turn: span(2, 3), Loss: 1, Break: span(3, 5)},
			{Low: span(8, 8), High: span(18, 18), Gain: span(0, 1), Turn: span(1, 1), Loss: 0, Break: span(6, 7)},
		},
		Weeks: 4,
	}
	for _, c := range changes {
		c(&b)
	}
	return b
}

var (
	heard = trials(trial(0, 3, 15, 0))
	torn  = trials(trial(0, 3, 15, 0), trial(0, 3, 20, 1))
)

// invalid are changes that each make the book of the examples a wrong one.
var invalid = map[string]change{
	"nothing":               func(b *api.VoiceBook) { *b = api.VoiceBook{} },
	"no boys":               boys(),
	"too many boys":         boys(make([]api.VoiceBoy, api.VoiceBoys+1)...),
	"low negative":          boy(0, func(v *api.VoiceBoy) { v.Low = span(-1, 0) }),
	"low above 40":          boy(1, func(v *api.VoiceBoy) { v.Low = span(40, 41) }),
	"low ends first":        boy(0, func(v *api.VoiceBoy) { v.Low = span(2, 1) }),
	"low too wide":          boy(0, func(v *api.VoiceBoy) { v.Low = span(0, 3) }),
	"low of all numbers":    boy(0, func(v *api.VoiceBoy) { v.Low = span(math.MinInt, math.MaxInt) }),
	"high negative":         boy(0, func(v *api.VoiceBoy) { v.High = span(-1, -1) }),
	"high above 40":         boy(0, func(v *api.VoiceBoy) { v.High = span(41, 41) }),
	"high ends first":       boy(1, func(v *api.VoiceBoy) { v.High = span(20, 19) }),
	"high too wide":         boy(0, func(v *api.VoiceBoy) { v.High = span(20, 23) }),
	"gain negative":         boy(0, func(v *api.VoiceBoy) { v.Gain = span(-1, 0) }),
	"gain above 2":          boy(0, func(v *api.VoiceBoy) { v.Gain = span(2, 3) }),
	"gain ends first":       boy(0, func(v *api.VoiceBoy) { v.Gain = span(1, 0) }),
	"gain too wide":         boy(0, func(v *api.VoiceBoy) { v.Gain = span(0, 2) }),
	"turn negative":         boy(0, func(v *api.VoiceBoy) { v.Turn = span(-1, 0) }),
	"turn above 6":          boy(0, func(v *api.VoiceBoy) { v.Turn = span(6, 7) }),
	"turn ends first":       boy(0, func(v *api.VoiceBoy) { v.Turn = span(3, 2) }),
	"turn too wide":         boy(0, func(v *api.VoiceBoy) { v.Turn = span(0, 3) }),
	"loss negative":         boy(0, func(v *api.VoiceBoy) { v.Loss = -1 }),
	"loss above 2":          boy(1, func(v *api.VoiceBoy) { v.Loss = api.VoiceLoss + 1 }),
	"break negative":        boy(0, func(v *api.VoiceBoy) { v.Break = span(-1, 0) }),
	"break above 9":         boy(0, func(v *api.VoiceBoy) { v.Break = span(9, 10) }),
	"break ends first":      boy(0, func(v *api.VoiceBoy) { v.Break = span(4, 3) }),
	"break too wide":        boy(0, func(v *api.VoiceBoy) { v.Break = span(0, 4) }),
	"no week":               weeks(0),
	"negative weeks":        weeks(-1),
	"too many weeks":        weeks(api.VoiceWeeks + 1),
	"too many trials":       trials(make([]api.VoiceTrial, api.VoiceTrials+1)...),
	"trial's boy negative":  trials(trial(-1, 0, 0, 0)),
	"trial's boy 2":         trials(trial(2, 0, 0, 0)),
	"trial's week negative": trials(trial(0, -1, 0, 0)),
	"trial's week after":    trials(trial(0, 0, 0, 0), trial(0, 4, 0, 0)),
	"trial's note negative": trials(trial(0, 0, -1, 0)),
	"trial's note above 40": trials(trial(0, 0, 41, 0)),
	"trial sang -1":         trials(trial(0, 0, 0, -1)),
	"trial sang 2":          trials(trial(0, 0, 0, 2)),
}

// valid are changes to the limits of what a book can be.
var valid = map[string]change{
	"as it is":       func(*api.VoiceBook) {},
	"all least":      func(b *api.VoiceBook) { *b = api.VoiceBook{Boys: make([]api.VoiceBoy, 1), Weeks: 1} },
	"all boys":       boys(make([]api.VoiceBoy, api.VoiceBoys)...),
	"all weeks":      weeks(api.VoiceWeeks),
	"widest":         boys(api.VoiceBoy{Low: span(38, 40), High: span(38, 40), Gain: span(1, 2), Turn: span(4, 6), Loss: 2, Break: span(6, 9)}),
	"low above high": boys(api.VoiceBoy{Low: span(40, 40), High: span(0, 0)}),
	"greatest trial": trials(trial(1, 3, 40, 1)),
	"all trials":     trials(make([]api.VoiceTrial, api.VoiceTrials)...),
	"empty trials":   trials([]api.VoiceTrial{}...),
	"false as it is": torn,
}

// P2.1
func TestCheck(t *testing.T) {
	for name, c := range valid {
		if e := voice.Check(book(c)); e != api.OK {
			t.Errorf("%s: %d", name, e)
		}
	}
	for name, c := range invalid {
		b := book(c)
		// What is asked is wrong, too: the error of the book comes first.
		errors := []api.Errno{voice.Check(b)}
		is, e := voice.Right(b)
		errors = append(errors, e)
		lowest, e := voice.Lowest(b, -1)
		errors = append(errors, e)
		highest, e := voice.Highest(b, 9, 9)
		errors = append(errors, e)
		breaks, e := voice.Breaks(b, 9)
		errors = append(errors, e)
		sings, e := voice.Sings(b, 9, -1, 41)
		errors = append(errors, e)
		surely, e := voice.Surely(b, 9, 41)
		errors = append(errors, e)
		must, e := voice.Must(b, 9)
		errors = append(errors, e)
		heir, e := voice.Heir(b, 9, 9, span(3, 2))
		errors = append(errors, e)
		fits, e := voice.Fits(b, trial(9, 9, 41, 2))
		errors = append(errors, e)
		wrong, e := voice.Wrong(b)
		errors = append(errors, e)
		for i, e := range errors {
			if e != api.ErrVoice {
				t.Errorf("%s: call %d: %d", name, i, e)
			}
		}
		if is || fits || lowest != highest || lowest != breaks || lowest != (api.Span{}) || len(surely)+len(must)+len(wrong) != 0 || sings != 0 || heir != 0 {
			t.Errorf("%s: a result beside the error", name)
		}
	}
}

// P2.1
func TestRight(t *testing.T) {
	for i, x := range []struct {
		b    api.VoiceBook
		want bool
	}{
		{book(), true},
		{book(heard), true},
		{book(torn), false},
		// One boy's trials are enough to make the book false.
		{book(trials(trial(0, 0, 20, 1), trial(1, 0, 18, 0))), false},
		{book(trials(trial(1, 0, 19, 1))), false},
		{book(trials(trial(1, 1, 19, 1))), true},
		{book(trials(trial(1, 1, 19, 1), trial(1, 2, 19, 0))), false},
		{book(trials(trial(0, 0, 5, 1), trial(0, 1, 5, 0))), false},
		{book(boys(api.VoiceBoy{Low: span(9, 9), High: span(8, 8), Break: span(1, 1)}), trials(trial(0, 0, 8, 0), trial(0, 0, 9, 0))), true},
		{book(boys(api.VoiceBoy{Low: span(9, 9), High: span(8, 8), Break: span(1, 1)}), trials(trial(0, 0, 9, 1))), false},
	} {
		if is, e := voice.Right(x.b); is != x.want || e != api.OK {
			t.Errorf("Right %d: %v, %d", i, is, e)
		}
	}
}

// P2.2
func TestLowestAndBreaks(t *testing.T) {
	for i, x := range []struct {
		b              api.VoiceBook
		boy            int
		lowest, breaks api.Span
		e              api.Errno
	}{
		{book(), 0, span(5, 6), span(3, 5), api.OK},
		{book(), 1, span(8, 8), span(6, 7), api.OK},
		{book(heard), 0, span(5, 6), span(3, 3), api.OK},
		{book(heard), 1, span(8, 8), span(6, 7), api.OK},
		{book(trials(trial(0, 0, 5, 1))), 0, span(5, 5), span(3, 5), api.OK},
		{book(trials(trial(0, 2, 5, 0))), 0, span(6, 6), span(3, 5), api.OK},
		{book(trials(trial(0, 3, 6, 1))), 0, span(5, 6), span(4, 5), api.OK},
		// In the week 3 the note 5 is too low for a voice that is not broken, or the voice is broken.
		{book(trials(trial(0, 3, 5, 0), trial(0, 0, 5, 1))), 0, span(5, 5), span(3, 3), api.OK},
		{book(), 2, api.Span{}, api.Span{}, api.ErrVoiceAsk},
		{book(torn), -1, api.Span{}, api.Span{}, api.ErrVoiceAsk},
		{book(torn), 0, api.Span{}, api.Span{}, api.ErrVoiceFalse},
		// The trials of another boy make the book false, too.
		{book(torn), 1, api.Span{}, api.Span{}, api.ErrVoiceFalse},
	} {
		if s, e := voice.Lowest(x.b, x.boy); s != x.lowest || e != x.e {
			t.Errorf("Lowest %d: %v, %d", i, s, e)
		}
		if s, e := voice.Breaks(x.b, x.boy); s != x.breaks || e != x.e {
			t.Errorf("Breaks %d: %v, %d", i, s, e)
		}
	}
}

// P2.3
func TestHighest(t *testing.T) {
	falls := boys(api.VoiceBoy{Low: span(0, 0), High: span(3, 3), Gain: span(2, 2), Turn: span(1, 1), Loss: 2, Break: span(9, 9)})
	climbs := boys(api.VoiceBoy{Low: span(0, 0), High: span(38, 40), Gain: span(1, 2), Turn: span(6, 6), Loss: 2, Break: span(5, 5)})
	for i, x := range []struct {
		b         api.VoiceBook
		boy, week int
		want      api.Span
		e         api.Errno
	}{
		{book(), 0, 0, span(20, 21), api.OK},
		{book(), 0, 1, span(21, 23), api.OK},
		{book(), 0, 2, span(22, 25), api.OK},
		{book(), 0, 3, span(21, 27), api.OK},
		{book(), 1, 3, span(18, 19), api.OK},
		{book(heard), 0, 3, api.Span{}, api.ErrNone},
		{book(heard), 0, 2, span(22, 25), api.OK},
		// Who sang 27 in the week 3 gains 2, from 21, until the week 3; in the week 2 he sings 25.
		{book(trials(trial(0, 3, 27, 1))), 0, 2, span(25, 25), api.OK},
		{book(trials(trial(0, 3, 27, 1))), 0, 0, span(21, 21), api.OK},
		// The highest note is below 0: it says what it says.
		{book(falls, weeks(6)), 0, 1, span(5, 5), api.OK},
		{book(falls, weeks(6)), 0, 3, span(1, 1), api.OK},
		{book(falls, weeks(6)), 0, 4, span(-1, -1), api.OK},
		{book(falls, weeks(6)), 0, 5, span(-3, -3), api.OK},
		// It is above 40, until the voice breaks.
		{book(climbs, weeks(6)), 0, 4, span(42, 48), api.OK},
		{book(climbs, weeks(6)), 0, 5, api.Span{}, api.ErrNone},
		{book(), 2, 0, api.Span{}, api.ErrVoiceAsk},
		{book(), -1, 0, api.Span{}, api.ErrVoiceAsk},
		{book(), 0, -1, api.Span{}, api.ErrVoiceAsk},
		{book(torn), 0, 4, api.Span{}, api.ErrVoiceAsk},
		{book(torn), 0, 3, api.Span{}, api.ErrVoiceFalse},
	} {
		if s, e := voice.Highest(x.b, x.boy, x.week); s != x.want || e != x.e {
			t.Errorf("Highest %d: %v, %d", i, s, e)
		}
	}
}

// P2.4
func TestSings(t *testing.T) {
	for i, x := range []struct {
		b               api.VoiceBook
		boy, week, note int
		want            int
		e               api.Errno
	}{
		{book(), 0, 0, 20, 2, api.OK},
		{book(), 0, 0, 21, 1, api.OK},
		{book(), 0, 0, 22, 0, api.OK},
		{book(), 0, 0, 6, 2, api.OK},
		{book(), 0, 0, 5, 1, api.OK},
		{book(), 0, 0, 4, 0, api.OK},
		{book(), 0, 3, 15, 1, api.OK},
		{book(), 0, 3, 28, 0, api.OK},
		{book(), 1, 3, 18, 2, api.OK},
		{book(heard), 0, 3, 15, 0, api.OK},
		{book(heard), 0, 2, 15, 2, api.OK},
		{book(trials(trial(0, 0, 21, 1))), 0, 0, 21, 2, api.OK},
		{book(trials(trial(0, 0, 21, 0))), 0, 0, 21, 0, api.OK},
		// From its week on a voice is broken, before it is not.
		{book(boy(0, func(v *api.VoiceBoy) { v.Break = span(0, 0) })), 0, 0, 20, 0, api.OK},
		{book(boy(0, func(v *api.VoiceBoy) { v.Break = span(1, 1) })), 0, 0, 20, 2, api.OK},
		{book(boy(0, func(v *api.VoiceBoy) { v.Break = span(1, 1) })), 0, 2, 20, 0, api.OK},
		// The highest note is below the lowest one.
		{book(boys(api.VoiceBoy{Low: span(9, 9), High: span(8, 8), Break: span(9, 9)})), 0, 0, 8, 0, api.OK},
		{book(boys(api.VoiceBoy{Low: span(9, 9), High: span(8, 8), Break: span(9, 9)})), 0, 0, 9, 0, api.OK},
		{book(boys(api.VoiceBoy{High: span(40, 40), Break: span(9, 9)})), 0, 3, 40, 2, api.OK},
		{book(boys(api.VoiceBoy{High: span(40, 40), Break: span(9, 9)})), 0, 3, 0, 2, api.OK},
		{book(), 2, 0, 20, 0, api.ErrVoiceAsk},
		{book(), -1, 0, 20, 0, api.ErrVoiceAsk},
		{book(), 0, 4, 20, 0, api.ErrVoiceAsk},
		{book(), 0, -1, 20, 0, api.ErrVoiceAsk},
		{book(), 0, 0, 41, 0, api.ErrVoiceAsk},
		{book(torn), 0, 0, -1, 0, api.ErrVoiceAsk},
		{book(torn), 1, 0, 18, 0, api.ErrVoiceFalse},
	} {
		if n, e := voice.Sings(x.b, x.boy, x.week, x.note); n != x.want || e != x.e {
			t.Errorf("Sings %d: %d, %d", i, n, e)
		}
	}
}

// P2.5
func TestSurely(t *testing.T) {
	all := boys(plain(), plain(), plain(), plain())
	for i, x := range []struct {
		b          api.VoiceBook
		week, note int
		want       []int
		e          api.Errno
	}{
		{book(), 0, 18, []int{0, 1}, api.OK},
		{book(), 3, 18, []int{1}, api.OK},
		{book(), 0, 20, []int{0}, api.OK},
		{book(), 0, 22, nil, api.OK},
		{book(all), 3, 20, []int{0, 1, 2, 3}, api.OK},
		{book(all, boy(1, func(v *api.VoiceBoy) { v.High = span(19, 20) })), 3, 20, []int{0, 2, 3}, api.OK},
		{book(trials(trial(0, 3, 20, 1))), 3, 18, []int{0, 1}, api.OK},
		{book(), 4, 18, nil, api.ErrVoiceAsk},
		{book(), -1, 18, nil, api.ErrVoiceAsk},
		{book(), 0, -1, nil, api.ErrVoiceAsk},
		{book(torn), 0, 41, nil, api.ErrVoiceAsk},
		{book(torn), 0, 18, nil, api.ErrVoiceFalse},
	} {
		if l, e := voice.Surely(x.b, x.week, x.note); !slices.Equal(l, x.want) || e != x.e {
			t.Errorf("Surely %d: %v, %d", i, l, e)
		}
	}
}

// P2.5
func TestMust(t *testing.T) {
	for i, x := range []struct {
		b    api.VoiceBook
		week int
		want []int
		e    api.Errno
	}{
		{book(), 3, nil, api.OK},
		{book(heard), 2, nil, api.OK},
		{book(heard), 3, []int{0}, api.OK},
		{book(weeks(6)), 4, nil, api.OK},
		{book(weeks(6)), 5, []int{0}, api.OK},
		{book(boys(api.VoiceBoy{}, plain(), api.VoiceBoy{})), 0, []int{0, 2}, api.OK},
		{book(trials(trial(0, 3, 20, 1)), weeks(6)), 4, nil, api.OK},
		{book(), 4, nil, api.ErrVoiceAsk},
		{book(torn), -1, nil, api.ErrVoiceAsk},
		{book(torn), 0, nil, api.ErrVoiceFalse},
	} {
		if l, e := voice.Must(x.b, x.week); !slices.Equal(l, x.want) || e != x.e {
			t.Errorf("Must %d: %v, %d", i, l, e)
		}
	}
}

// P2.6
func TestHeir(t *testing.T) {
	three := boys(plain(), plain(), plain())
	for i, x := range []struct {
		b         api.VoiceBook
		boy, week int
		notes     api.Span
		want      int
		e         api.Errno
	}{
		{book(heard), 0, 3, span(10, 18), 1, api.OK},
		{book(heard), 0, 3, span(7, 18), 0, api.ErrNone},
		{book(heard), 0, 3, span(8, 19), 0, api.ErrNone},
		{book(heard), 0, 3, span(8, 8), 1, api.OK},
		{book(), 1, 0, span(6, 20), 0, api.OK},
		// That a boy may sing it is not enough.
		{book(), 1, 0, span(6, 21), 0, api.ErrNone},
		{book(), 1, 0, span(5, 20), 0, api.ErrNone},
		{book(), 1, 3, span(10, 18), 0, api.ErrNone},
		{book(trials(trial(0, 3, 18, 1))), 1, 3, span(10, 18), 0, api.OK},
		{book(three), 0, 0, span(10, 20), 1, api.OK},
		{book(three), 1, 0, span(10, 20), 0, api.OK},
		{book(three), 2, 0, span(10, 20), 0, api.OK},
		{book(three, boy(0, func(v *api.VoiceBoy) { v.Low = span(11, 11) })), 1, 0, span(10, 20), 2, api.OK},
		{book(boys(plain())), 0, 0, span(10, 20), 0, api.ErrNone},
		{book(), 2, 0, span(10, 18), 0, api.ErrVoiceAsk},
		{book(), -1, 0, span(10, 18), 0, api.ErrVoiceAsk},
		{book(), 0, 4, span(10, 18), 0, api.ErrVoiceAsk},
		{book(), 0, -1, span(10, 18), 0, api.ErrVoiceAsk},
		{book(), 0, 0, span(18, 10), 0, api.ErrVoiceAsk},
		{book(), 0, 0, span(-1, 10), 0, api.ErrVoiceAsk},
		{book(torn), 0, 0, span(10, 41), 0, api.ErrVoiceAsk},
		{book(torn), 0, 0, span(0, 40), 0, api.ErrVoiceFalse},
	} {
		if n, e := voice.Heir(x.b, x.boy, x.week, x.notes); n != x.want || e != x.e {
			t.Errorf("Heir %d: %d, %d", i, n, e)
		}
	}
}

// P2.7
func TestFits(t *testing.T) {
	full := trials(slices.Repeat([]api.VoiceTrial{trial(0, 3, 15, 0)}, api.VoiceTrials)...)
	for i, x := range []struct {
		b     api.VoiceBook
		trial api.VoiceTrial
		want  bool
		e     api.Errno
	}{
		{book(), trial(0, 1, 24, 1), false, api.OK},
		{book(), trial(0, 1, 23, 1), true, api.OK},
		{book(), trial(0, 1, 20, 0), false, api.OK},
		{book(heard), trial(0, 3, 20, 1), false, api.OK},
		{book(heard), trial(0, 3, 20, 0), true, api.OK},
		{book(full), trial(0, 2, 25, 1), true, api.OK},
		{book(full), trial(0, 3, 20, 1), false, api.OK},
		{book(heard), trial(1, 0, 18, 1), true, api.OK},
		{book(heard), trial(1, 0, 18, 0), false, api.OK},
		{book(), trial(2, 0, 0, 0), false, api.ErrVoiceAsk},
		{book(), trial(-1, 0, 0, 0), false, api.ErrVoiceAsk},
		{book(), trial(0, 4, 0, 0), false, api.ErrVoiceAsk},
		{book(), trial(0, 0, 41, 0), false, api.ErrVoiceAsk},
		{book(torn), trial(0, 0, 0, 2), false, api.ErrVoiceAsk},
		{book(torn), trial(1, 0, 0, 0), false, api.ErrVoiceFalse},
	} {
		if is, e := voice.Fits(x.b, x.trial); is != x.want || e != x.e {
			t.Errorf("Fits %d: %v, %d", i, is, e)
		}
	}
}

// P2.8
func TestWrong(t *testing.T) {
	for i, x := range []struct {
		b    api.VoiceBook
		want []int
	}{
		{book(), nil},
		{book(heard), nil},
		{book(torn), []int{0}},
		// The trial 1 alone stands against both others.
		{book(trials(trial(0, 3, 15, 0), trial(0, 3, 20, 1), trial(0, 3, 16, 0))), []int{1}},
		// One trial is fewer than two, though the numbers of the two are less.
		{book(trials(trial(0, 3, 15, 0), trial(0, 3, 16, 0), trial(0, 3, 20, 1))), []int{2}},
		{book(trials(trial(0, 3, 15, 0), trial(0, 3, 20, 1), trial(0, 3, 15, 0), trial(0, 3, 20, 1))), []int{0, 2}},
		// Trials that no truth allows.
		{book(trials(trial(0, 0, 40, 1), trial(0, 0, 20, 1), trial(0, 0, 0, 1))), []int{0, 2}},
		{book(trials(slices.Repeat([]api.VoiceTrial{trial(0, 0, 0, 1)}, api.VoiceTrials)...)), []int{0, 1, 2, 3, 4, 5}},
		// Two boys: each has the own false trials, and the list of both increases.
		{book(trials(trial(1, 0, 18, 1), trial(1, 0, 18, 0), trial(0, 3, 15, 0), trial(0, 3, 20, 1), trial(1, 0, 8, 0))), []int{1, 2, 4}},
		{book(trials(trial(0, 0, 20, 1), trial(1, 0, 18, 0), trial(0, 0, 20, 0))), []int{1, 2}},
	} {
		if l, e := voice.Wrong(x.b); !slices.Equal(l, x.want) || e != api.OK {
			t.Errorf("Wrong %d: %v, %d", i, l, e)
		}
	}
}

// P2.9
func TestMemory(t *testing.T) {
	spare := make([]api.VoiceTrial, 1, api.VoiceTrials)
	spare[0] = trial(0, 3, 15, 0)
	b := book(trials(spare...))
	voice.Fits(b, trial(0, 2, 20, 1))
	voice.Wrong(b)
	if spare[:2][1] != (api.VoiceTrial{}) {
		t.Error("Fits wrote behind the trials")
	}
	for name, call := range map[string]func() []int{
		"Surely": func() []int { l, _ := voice.Surely(book(), 0, 18); return l },
		"Must":   func() []int { l, _ := voice.Must(book(heard), 3); return l },
		"Wrong":  func() []int { l, _ := voice.Wrong(book(torn)); return l },
	} {
		one := call()
		want := slices.Clone(one)
		for i := range one {
			one[i] = 77
		}
		if !slices.Equal(call(), want) {
			t.Errorf("%s: two results share memory", name)
		}
	}
}
