package organ_test

import (
	"math"
	"slices"
	"testing"

	"decani/api"
	"decani/organ"
)

func span(low, high int) api.Span { return api.Span{Low: low, High: high} }

func just(n int) api.Span { return span(n, n) }

func tune(from, to, off, error int) api.OrganTune {
	return api.OrganTune{From: from, To: to, Off: off, Error: error}
}

func fork(pipe, read, error int) api.OrganFork {
	return api.OrganFork{Pipe: pipe, Read: read, Error: error}
}

func part(boy, low, high int) api.OrganPart {
	return api.OrganPart{Boy: boy, Notes: span(low, high)}
}

func piece(parts ...api.OrganPart) []api.OrganPart { return parts }

func trial(boy, week, note, sang int) api.VoiceTrial {
	return api.VoiceTrial{Boy: boy, Week: week, Note: note, Sang: sang}
}

// sings is a boy who always sings all notes from low to high, and no others.
func sings(low, high int) api.VoiceBoy {
	return api.VoiceBoy{Low: just(low), High: just(high), Break: just(9)}
}

type change func(b *api.OrganBook)

func pipes(n int) change { return func(b *api.OrganBook) { b.Pipes = n } }

func tunes(l ...api.OrganTune) change {
	return func(b *api.OrganBook) { b.Tunes = slices.Clone(l) }
}

// more adds tunings.
func more(l ...api.OrganTune) change {
	return func(b *api.OrganBook) { b.Tunes = slices.Concat(b.Tunes, l) }
}

func forks(l ...api.OrganFork) change {
	return func(b *api.OrganBook) { b.Forks = slices.Clone(l) }
}

func boys(l ...api.VoiceBoy) change {
	return func(b *api.OrganBook) { b.Voice.Boys = slices.Clone(l) }
}

func weeks(n int) change { return func(b *api.OrganBook) { b.Voice.Weeks = n } }

func trials(l ...api.VoiceTrial) change {
	return func(b *api.OrganBook) { b.Voice.Trials = slices.Clone(l) }
}

// book is that of the chapter's examples, changed.
func book(changes ...change) api.OrganBook {
	b := api.OrganBook{
		Pipes: 3,
		Tunes: []api.OrganTune{tune(0, 1, 0, 2), tune(1, 2, 1, 1), tune(0, 2, 4, 1)},
		Forks: []api.OrganFork{fork(0, 10, 1)},
		Voice: api.VoiceBook{
			Boys: []api.VoiceBoy{
				{Low: span(5, 6), High: span(20, 21), Gain: span(1, 2), Turn: span(2, 3), Loss: 1, Break: span(3, 5)},
				{Low: just(8), High: just(18), Gain: span(0, 1), Turn: just(1), Break: span(6, 7)},
			},
			Weeks: 4,
		},
	}
	for _, c := range changes {
		c(&b)
	}
	return b
}

// plain is a book of pipes of which nothing is known, and a boy who always sings 10 to 30.
func plain(n int, changes ...change) api.OrganBook {
	b := api.OrganBook{Pipes: n, Voice: api.VoiceBook{Boys: []api.VoiceBoy{sings(10, 30)}, Weeks: 1}}
	for _, c := range changes {
		c(&b)
	}
	return b
}

var (
	torn = more(tune(0, 1, 10, 1))
	// hoarse are trials that cannot all be right.
	hoarse = trials(trial(0, 3, 15, 0), trial(0, 3, 20, 1))
	// forked are forks that cannot both be right, whatever was tuned.
	forked = forks(fork(0, 10, 1), fork(0, 13, 1))
)

// invalid are changes that each make the book of the examples a wrong one.
var invalid = map[string]change{
	"nothing":              func(b *api.OrganBook) { *b = api.OrganBook{} },
	"no pipes":             func(b *api.OrganBook) { b.Pipes, b.Tunes, b.Forks = 0, nil, nil },
	"fewer pipes":          func(b *api.OrganBook) { b.Pipes, b.Tunes, b.Forks = -1, nil, nil },
	"too many pipes":       pipes(api.OrganPipes + 1),
	"pipes of fewer":       pipes(2),
	"too many tunings":     tunes(slices.Repeat([]api.OrganTune{tune(0, 1, 2, 1)}, api.OrganTunes+1)...),
	"from pipe -1":         more(tune(-1, 0, 0, 0)),
	"from no pipe":         more(tune(3, 0, 0, 0)),
	"to pipe -1":           more(tune(0, -1, 0, 0)),
	"to no pipe":           more(tune(0, 3, 0, 0)),
	"from itself":          more(tune(1, 1, 0, 0)),
	"tuned too low":        more(tune(0, 1, -31, 0)),
	"tuned too high":       more(tune(0, 1, 31, 0)),
	"tuned to the least":   more(tune(0, 1, math.MinInt, 0)),
	"tuning's error -1":    more(tune(0, 1, 0, -1)),
	"tuning's great error": more(tune(0, 1, 0, 6)),
	"too many forks":       forks(slices.Repeat([]api.OrganFork{fork(0, 10, 1)}, api.OrganForks+1)...),
	"fork of pipe -1":      forks(fork(-1, 0, 0)),
	"fork of no pipe":      forks(fork(3, 0, 0)),
	"fork too low":         forks(fork(0, -61, 0)),
	"fork too high":        forks(fork(0, 61, 0)),
	"fork's error -1":      forks(fork(0, 0, 0), fork(0, 0, -1)),
	"fork's great error":   forks(fork(0, 0, 6)),
	"fork of the greatest": forks(fork(0, math.MaxInt, math.MaxInt)),
	"no boys":              boys(),
	"wrong boy":            boys(sings(0, 41)),
	"no week":              weeks(0),
	"too many weeks":       weeks(api.VoiceWeeks + 1),
	"wrong trial":          trials(trial(2, 0, 0, 0)),
}

// valid are changes to the limits of what a book can be.
var valid = map[string]change{
	"as it is": func(*api.OrganBook) {},
	"all least": func(b *api.OrganBook) {
		*b = api.OrganBook{Pipes: 1, Voice: api.VoiceBook{Boys: make([]api.VoiceBoy, 1), Weeks: 1}}
	},
	"all greatest": func(b *api.OrganBook) {
		b.Pipes = api.OrganPipes
		b.Tunes = slices.Repeat([]api.OrganTune{tune(4, 0, 30, 5), tune(0, 4, -30, 0)}, 3)
		b.Forks = []api.OrganFork{fork(4, 60, 5), fork(0, -60, 5), fork(4, -60, 0)}
		b.Voice = api.VoiceBook{Boys: make([]api.VoiceBoy, api.VoiceBoys), Weeks: api.VoiceWeeks}
	},
	"one pipe":         plainly(1),
	"a tuning back":    more(tune(2, 0, -4, 1)),
	"false as it is":   torn,
	"hoarse as it is":  hoarse,
	"forks as they be": forked,
}

func plainly(n int) change { return func(b *api.OrganBook) { *b = plain(n) } }

// P8.1
func TestCheck(t *testing.T) {
	for name, c := range valid {
		if e := organ.Check(book(c)); e != api.OK {
			t.Errorf("%s: %d", name, e)
		}
	}
	for name, c := range invalid {
		b := book(c)
		// What is asked is wrong, too: the error of the book comes first.
		errors := []api.Errno{organ.Check(b)}
		right, e := organ.Right(b)
		errors = append(errors, e)
		pitch, e := organ.Pitch(b, -1)
		errors = append(errors, e)
		apart, e := organ.Apart(b, 9, -1)
		errors = append(errors, e)
		sharp, e := organ.Sharp(b)
		errors = append(errors, e)
		keys, e := organ.Keys(b, -1, nil)
		errors = append(errors, e)
		best, e := organ.Best(b, 9, nil)
		errors = append(errors, e)
		fits, e := organ.Fits(b, tune(0, 0, 0, 0))
		errors = append(errors, e)
		wrong, e := organ.Wrong(b)
		errors = append(errors, e)
		for i, e := range errors {
			if e != api.ErrOrgan {
				t.Errorf("%s: call %d: %d", name, i, e)
			}
		}
		if nothing := (api.Span{}); right || fits || pitch != nothing || apart != nothing || sharp != nothing || best != 0 || len(keys)+len(wrong) != 0 {
			t.Errorf("%s: a result beside the error", name)
		}
	}
}

// P8.1
func TestRight(t *testing.T) {
	for i, x := range []struct {
		b    api.OrganBook
		want bool
	}{
		{book(), true},
		{book(torn), false},
		{book(hoarse), false},
		{book(forked), false},
		{book(forks(fork(0, 10, 1), fork(0, 12, 1))), true},
		{plain(5), true},
		// A tuning can be wrong by its error, not by more.
		{plain(2, forks(fork(0, 0, 0), fork(1, 7, 0)), tunes(tune(0, 1, 5, 2))), true},
		{plain(2, forks(fork(0, 0, 0), fork(1, 8, 0)), tunes(tune(0, 1, 5, 2))), false},
		{plain(2, forks(fork(0, 0, 0), fork(1, 3, 0)), tunes(tune(0, 1, 5, 2))), true},
		{plain(2, forks(fork(0, 0, 0), fork(1, 2, 0)), tunes(tune(0, 1, 5, 2))), false},
		{plain(2, forks(fork(0, 0, 2), fork(1, 9, 2)), tunes(tune(0, 1, 5, 0))), true},
		{plain(2, forks(fork(0, 0, 2), fork(1, 10, 2)), tunes(tune(0, 1, 5, 0))), false},
		// Around, without a fork.
		{plain(3, tunes(tune(0, 1, 5, 1), tune(1, 2, 5, 1), tune(2, 0, -13, 1))), true},
		{plain(3, tunes(tune(0, 1, 5, 1), tune(1, 2, 5, 1), tune(2, 0, -14, 1))), false},
		{plain(3, tunes(tune(0, 1, 5, 1), tune(1, 2, 5, 1), tune(2, 0, -7, 1))), true},
		{plain(3, tunes(tune(0, 1, 5, 1), tune(1, 2, 5, 1), tune(2, 0, -6, 1))), false},
		// No pipe is farther from the town's than 60, and all can be so far.
		{plain(5, forks(fork(0, -60, 0)), tunes(tune(0, 1, 0, 0), tune(0, 2, 0, 0), tune(0, 3, 0, 0), tune(0, 4, 0, 0))), true},
		{plain(5, forks(fork(0, -59, 0)), tunes(tune(0, 1, 0, 0), tune(0, 2, 0, 0), tune(0, 3, 0, 0), tune(0, 4, 0, 0))), true},
		{plain(2, forks(fork(0, 60, 0)), tunes(tune(0, 1, 5, 5))), true},
		{plain(2, forks(fork(0, 60, 0)), tunes(tune(0, 1, 6, 5))), false},
		{plain(2, forks(fork(1, -60, 0)), tunes(tune(0, 1, 6, 5))), false},
		{plain(2, forks(fork(0, -60, 0)), tunes(tune(0, 1, -6, 5))), false},
		{plain(5, tunes(tune(0, 1, 30, 0), tune(1, 2, 30, 0), tune(2, 3, 30, 0), tune(3, 4, 30, 0))), true},
		{plain(5, tunes(tune(0, 1, 30, 0), tune(1, 2, 30, 0), tune(2, 3, 30, 0), tune(3, 4, 30, 0)), forks(fork(0, -59, 0))), false},
		{plain(5, tunes(tune(4, 3, 30, 0), tune(3, 2, 30, 0), tune(2, 1, 30, 0), tune(1, 0, 30, 0)), forks(fork(2, 0, 5))), true},
	} {
		if is, e := organ.Right(x.b); is != x.want || e != api.OK {
			t.Errorf("Right %d: %v, %d", i, is, e)
		}
	}
}

// P8.2
func TestPitch(t *testing.T) {
	for i, x := range []struct {
		b    api.OrganBook
		pipe int
		want api.Span
		e    api.Errno
	}{
		{book(), 0, span(9, 11), api.OK},
		{book(), 1, span(10, 13), api.OK},
		{book(), 2, span(12, 15), api.OK},
		{book(tunes()), 0, span(9, 11), api.OK},
		{book(tunes()), 1, span(-60, 60), api.OK},
		{book(forks()), 0, span(-60, 57), api.OK},
		{book(forks()), 1, span(-59, 59), api.OK},
		{book(forks()), 2, span(-57, 60), api.OK},
		{plain(1), 0, span(-60, 60), api.OK},
		{plain(1, forks(fork(0, 60, 5))), 0, span(55, 60), api.OK},
		{plain(1, forks(fork(0, -58, 5))), 0, span(-60, -53), api.OK},
		// Several forks of one pipe, and tunings of it by several ways.
		{plain(2, forks(fork(0, 4, 3), fork(0, 8, 2), fork(1, -3, 4))), 0, span(6, 7), api.OK},
		{plain(2, forks(fork(0, 4, 3), fork(0, 8, 2), fork(1, -3, 4))), 1, span(-7, 1), api.OK},
		{plain(2, forks(fork(0, 4, 3), fork(1, -3, 4)), tunes(tune(0, 1, 0, 1))), 0, span(1, 2), api.OK},
		{plain(2, forks(fork(0, 4, 3), fork(1, -3, 4)), tunes(tune(0, 1, 0, 1))), 1, span(0, 1), api.OK},
		{plain(3, forks(fork(2, 0, 0)), tunes(tune(0, 1, 3, 1), tune(2, 1, -7, 2))), 0, span(-13, -7), api.OK},
		// A tuning and what it says turned around are the same.
		{plain(2, forks(fork(1, 20, 1)), tunes(tune(0, 1, 30, 2))), 0, span(-13, -7), api.OK},
		{plain(2, forks(fork(1, 20, 1)), tunes(tune(1, 0, -30, 2))), 0, span(-13, -7), api.OK},
		{book(), 3, api.Span{}, api.ErrOrganAsk},
		{book(), -1, api.Span{}, api.ErrOrganAsk},
		{plain(1), 1, api.Span{}, api.ErrOrganAsk},
		{book(torn), 3, api.Span{}, api.ErrOrganAsk},
		{book(hoarse), math.MaxInt, api.Span{}, api.ErrOrganAsk},
		{book(torn), 0, api.Span{}, api.ErrOrganFalse},
		{book(hoarse), 0, api.Span{}, api.ErrOrganFalse},
		{book(forked), 2, api.Span{}, api.ErrOrganFalse},
		// What is false elsewhere makes the book false for this pipe, too.
		{plain(3, tunes(tune(1, 2, 0, 0), tune(1, 2, 1, 0))), 0, api.Span{}, api.ErrOrganFalse},
	} {
		if s, e := organ.Pitch(x.b, x.pipe); s != x.want || e != x.e {
			t.Errorf("Pitch %d: %v, %d", i, s, e)
		}
	}
}

// P8.2
func TestApart(t *testing.T) {
	for i, x := range []struct {
		b        api.OrganBook
		from, to int
		want     api.Span
		e        api.Errno
	}{
		{book(), 0, 1, span(1, 2), api.OK},
		{book(), 0, 2, span(3, 4), api.OK},
		{book(), 1, 2, span(1, 2), api.OK},
		{book(), 2, 0, span(-4, -3), api.OK},
		{book(), 1, 1, just(0), api.OK},
		{book(tunes()), 0, 1, span(-71, 51), api.OK},
		{book(tunes()), 2, 1, span(-120, 120), api.OK},
		{book(forks()), 0, 1, span(1, 2), api.OK},
		{plain(2), 0, 1, span(-120, 120), api.OK},
		{plain(2), 0, 0, just(0), api.OK},
		// By way of the town's, and by way of a third pipe.
		{plain(2, forks(fork(0, 10, 2), fork(1, -10, 3))), 0, 1, span(-25, -15), api.OK},
		{plain(3, tunes(tune(0, 1, 30, 1), tune(2, 1, 20, 2))), 0, 2, span(7, 13), api.OK},
		{plain(3, tunes(tune(0, 1, 30, 1), tune(2, 1, 20, 2)), forks(fork(0, 0, 0), fork(2, 3, 5))), 0, 2, span(7, 8), api.OK},
		{plain(5, tunes(tune(0, 1, 30, 0), tune(1, 2, 30, 1), tune(2, 3, 30, 2), tune(3, 4, 30, 0))), 0, 4, span(117, 120), api.OK},
		{plain(5, tunes(tune(0, 1, 30, 0), tune(1, 2, 30, 1), tune(2, 3, 30, 2), tune(3, 4, 30, 0))), 1, 3, span(57, 60), api.OK},
		{book(), 3, 0, api.Span{}, api.ErrOrganAsk},
		{book(), 0, 3, api.Span{}, api.ErrOrganAsk},
		{book(), -1, 0, api.Span{}, api.ErrOrganAsk},
		{book(torn), 0, -1, api.Span{}, api.ErrOrganAsk},
		{book(torn), 1, 1, api.Span{}, api.ErrOrganFalse},
		{book(hoarse), 0, 1, api.Span{}, api.ErrOrganFalse},
		{book(forked), 1, 2, api.Span{}, api.ErrOrganFalse},
	} {
		if s, e := organ.Apart(x.b, x.from, x.to); s != x.want || e != x.e {
			t.Errorf("Apart %d: %v, %d", i, s, e)
		}
	}
}

// P8.3
func TestSharp(t *testing.T) {
	one := func(read, error int) api.OrganBook { return plain(1, forks(fork(0, read, error))) }
	for i, x := range []struct {
		b    api.OrganBook
		want api.Span
		e    api.Errno
	}{
		{book(), span(0, 2), api.OK},
		{plain(1), span(-6, 6), api.OK},
		{plain(2, forks(fork(0, 12, 1))), span(-6, 6), api.OK},
		{one(0, 0), just(0), api.OK},
		{one(10, 0), just(1), api.OK},
		{one(-10, 0), just(-1), api.OK},
		{one(1, 0), span(0, 1), api.OK},
		{one(9, 0), span(0, 1), api.OK},
		{one(11, 0), span(1, 2), api.OK},
		{one(-1, 0), span(-1, 0), api.OK},
		{one(-9, 0), span(-1, 0), api.OK},
		{one(-11, 0), span(-2, -1), api.OK},
		{one(0, 1), span(-1, 1), api.OK},
		{one(13, 3), span(1, 2), api.OK},
		{one(17, 3), span(1, 2), api.OK},
		{one(18, 3), span(1, 3), api.OK},
		{one(-17, 3), span(-2, -1), api.OK},
		{one(60, 5), span(5, 6), api.OK},
		{one(-60, 0), just(-6), api.OK},
		// The least one, and the greatest one, of any pipe.
		{plain(2, forks(fork(0, 35, 0), fork(1, -14, 0))), span(-2, 4), api.OK},
		{plain(2, forks(fork(1, 35, 0), fork(0, -14, 0))), span(-2, 4), api.OK},
		{plain(3, forks(fork(0, 12, 0), fork(1, 28, 0), fork(2, 19, 1))), span(1, 3), api.OK},
		{book(torn), api.Span{}, api.ErrOrganFalse},
		{book(hoarse), api.Span{}, api.ErrOrganFalse},
		{book(forked), api.Span{}, api.ErrOrganFalse},
	} {
		if s, e := organ.Sharp(x.b); s != x.want || e != x.e {
			t.Errorf("Sharp %d: %v, %d", i, s, e)
		}
	}
}

// P8.4
func TestKeysAndBest(t *testing.T) {
	// exact is a book of an organ that is exactly so sharp, and of a boy who always sings 10 to 30.
	exact := func(tenths int, c ...change) api.OrganBook {
		return plain(1, append(c, forks(fork(0, tenths, 0)))...)
	}
	every := []int{-6, -5, -4, -3, -2, -1, 0, 1, 2, 3, 4, 5, 6}
	for i, x := range []struct {
		b     api.OrganBook
		week  int
		parts []api.OrganPart
		keys  []int
		best  int
		e     api.Errno
	}{
		{book(), 0, piece(part(0, 8, 15), part(1, 10, 14)), []int{-2, -1, 0, 1, 2}, 0, api.OK},
		{book(), 0, piece(part(1, 8, 15)), []int{0, 1}, 0, api.OK},
		{book(), 0, piece(part(1, 10, 18)), []int{-2}, -2, api.OK},
		{book(), 0, piece(part(1, 8, 18)), nil, 0, api.OK},
		// All keys that there are, and no others.
		{exact(0), 0, piece(part(0, 16, 24)), every, 0, api.OK},
		{exact(0), 0, piece(part(0, 20, 20)), every, 0, api.OK},
		{exact(0), 0, piece(part(0, 15, 24)), every[1:], 0, api.OK},
		{exact(0), 0, piece(part(0, 16, 25)), every[:12], 0, api.OK},
		{exact(0), 0, piece(part(0, 4, 5)), []int{6}, 6, api.OK},
		{exact(0), 0, piece(part(0, 3, 5)), nil, 0, api.OK},
		{exact(0), 0, piece(part(0, 35, 36)), []int{-6}, -6, api.OK},
		{exact(0), 0, piece(part(0, 35, 37)), nil, 0, api.OK},
		// The least from 0; of two such ones there is none but the lower one.
		{exact(0), 0, piece(part(0, 7, 20)), []int{3, 4, 5, 6}, 3, api.OK},
		{exact(0), 0, piece(part(0, 20, 33)), []int{-6, -5, -4, -3}, -3, api.OK},
		{exact(0, boys(sings(10, 30), sings(10, 30))), 0, piece(part(0, 9, 20), part(1, 20, 28)), []int{1, 2}, 1, api.OK},
		// A sharp organ, and a flat one.
		{exact(30), 0, piece(part(0, 10, 30)), []int{-3}, -3, api.OK},
		{exact(-30), 0, piece(part(0, 10, 30)), []int{3}, 3, api.OK},
		{exact(31), 0, piece(part(0, 10, 29)), []int{-3}, -3, api.OK},
		{exact(31), 0, piece(part(0, 10, 30)), nil, 0, api.OK},
		{exact(-31), 0, piece(part(0, 11, 30)), []int{3}, 3, api.OK},
		{exact(60), 0, piece(part(0, 10, 30)), []int{-6}, -6, api.OK},
		{plain(1), 0, piece(part(0, 16, 24)), []int{0}, 0, api.OK},
		{plain(1), 0, piece(part(0, 16, 25)), nil, 0, api.OK},
		// There is no note below 0, nor above 40.
		{exact(0, boys(sings(0, 40))), 0, piece(part(0, 0, 40)), []int{0}, 0, api.OK},
		{exact(0, boys(sings(0, 40))), 0, piece(part(0, 3, 38)), []int{-3, -2, -1, 0, 1, 2}, 0, api.OK},
		{exact(60, boys(sings(0, 40))), 0, piece(part(0, 40, 40)), []int{-6}, -6, api.OK},
		{exact(-60, boys(sings(0, 40))), 0, piece(part(0, 0, 0)), []int{6}, 6, api.OK},
		{exact(0, weeks(2), boys(api.VoiceBoy{Low: just(0), High: just(40), Gain: just(2), Turn: just(6), Break: just(9)})), 1, piece(part(0, 39, 40)), every[:7], 0, api.OK},
		// That a boy may sing it is not enough: at either end, or with a voice that may break.
		{book(forks(fork(0, 0, 0)), pipes(1), tunes()), 0, piece(part(0, 6, 20)), []int{0}, 0, api.OK},
		{book(forks(fork(0, 0, 0)), pipes(1), tunes()), 0, piece(part(0, 5, 20)), nil, 0, api.OK},
		{book(forks(fork(0, 0, 0)), pipes(1), tunes()), 0, piece(part(0, 6, 21)), nil, 0, api.OK},
		{book(forks(fork(0, 0, 0)), pipes(1), tunes()), 2, piece(part(0, 6, 21)), []int{0, 1}, 0, api.OK},
		{book(forks(fork(0, 0, 0)), pipes(1), tunes()), 3, piece(part(0, 10, 10)), nil, 0, api.OK},
		{book(forks(fork(0, 0, 0)), pipes(1), tunes()), 3, piece(part(1, 8, 17)), []int{0, 1}, 0, api.OK},
		{book(forks(fork(0, 0, 0)), pipes(1), tunes(), trials(trial(0, 3, 12, 1))), 3, piece(part(0, 6, 18)), []int{0, 1, 2, 3}, 0, api.OK},
		// Each part must lie within its voice, whoever sings another one.
		{exact(0, boys(sings(10, 30), sings(0, 20))), 0, piece(part(0, 12, 13), part(1, 15, 16), part(0, 27, 28)), []int{-2, -1, 0, 1, 2}, 0, api.OK},
		{exact(0, boys(sings(10, 30), sings(0, 20))), 0, piece(part(0, 20, 20), part(0, 20, 20), part(0, 20, 20), part(1, 20, 20)), every[:7], 0, api.OK},
		{exact(0, boys(sings(10, 30), sings(0, 20))), 0, piece(part(0, 10, 10), part(1, 20, 20)), []int{0}, 0, api.OK},
		{exact(0, boys(sings(10, 30), sings(0, 20))), 0, piece(part(0, 9, 10), part(1, 20, 20)), nil, 0, api.OK},
		{book(), 4, piece(part(0, 8, 15)), nil, 0, api.ErrOrganAsk},
		{book(), -1, piece(part(0, 8, 15)), nil, 0, api.ErrOrganAsk},
		{book(), 0, nil, nil, 0, api.ErrOrganAsk},
		{book(), 0, slices.Repeat(piece(part(0, 8, 15)), api.OrganParts+1), nil, 0, api.ErrOrganAsk},
		{book(), 0, piece(part(2, 8, 15)), nil, 0, api.ErrOrganAsk},
		{book(), 0, piece(part(0, 8, 15), part(-1, 8, 15)), nil, 0, api.ErrOrganAsk},
		{book(), 0, piece(part(0, 9, 8)), nil, 0, api.ErrOrganAsk},
		{book(), 0, piece(part(0, -1, 8)), nil, 0, api.ErrOrganAsk},
		{book(), 0, piece(part(0, 8, 41)), nil, 0, api.ErrOrganAsk},
		{book(), 0, piece(part(0, math.MinInt, math.MaxInt)), nil, 0, api.ErrOrganAsk},
		{book(torn), 4, piece(part(0, 8, 15)), nil, 0, api.ErrOrganAsk},
		{book(hoarse), 0, nil, nil, 0, api.ErrOrganAsk},
		{book(torn), 0, piece(part(0, 8, 15)), nil, 0, api.ErrOrganFalse},
		{book(hoarse), 0, piece(part(1, 8, 15)), nil, 0, api.ErrOrganFalse},
		{book(forked), 0, piece(part(1, 8, 15)), nil, 0, api.ErrOrganFalse},
	} {
		if l, e := organ.Keys(x.b, x.week, x.parts); !slices.Equal(l, x.keys) || e != x.e {
			t.Errorf("Keys %d: %v, %d", i, l, e)
		}
		e := x.e
		if e == api.OK && len(x.keys) == 0 {
			e = api.ErrNone
		}
		if n, f := organ.Best(x.b, x.week, x.parts); n != x.best || f != e {
			t.Errorf("Best %d: %d, %d", i, n, f)
		}
	}
}

// P8.5
func TestFits(t *testing.T) {
	six := tunes(slices.Repeat([]api.OrganTune{tune(0, 1, 2, 1)}, api.OrganTunes)...)
	for i, x := range []struct {
		b    api.OrganBook
		tune api.OrganTune
		want bool
		e    api.Errno
	}{
		{book(), tune(0, 1, 4, 2), true, api.OK},
		{book(), tune(0, 1, 5, 2), false, api.OK},
		{book(), tune(0, 1, -1, 2), true, api.OK},
		{book(), tune(0, 1, -2, 2), false, api.OK},
		{book(), tune(2, 1, -3, 0), false, api.OK},
		{book(), tune(2, 1, -2, 0), true, api.OK},
		{book(tunes()), tune(0, 1, 30, 0), true, api.OK},
		{book(six), tune(0, 1, 4, 2), true, api.OK},
		{book(six), tune(0, 1, 6, 2), false, api.OK},
		{book(six), tune(2, 1, 30, 5), true, api.OK},
		{plain(2, forks(fork(0, 30, 0))), tune(0, 1, 30, 0), true, api.OK},
		{plain(2, forks(fork(0, 31, 0))), tune(0, 1, 30, 0), false, api.OK},
		{plain(2, forks(fork(0, 31, 0))), tune(0, 1, 30, 1), true, api.OK},
		{book(), tune(0, 0, 0, 0), false, api.ErrOrganAsk},
		{book(), tune(0, 3, 0, 0), false, api.ErrOrganAsk},
		{book(), tune(3, 0, 0, 0), false, api.ErrOrganAsk},
		{book(), tune(-1, 0, 0, 0), false, api.ErrOrganAsk},
		{book(), tune(0, 1, 31, 0), false, api.ErrOrganAsk},
		{book(), tune(0, 1, -31, 0), false, api.ErrOrganAsk},
		{book(), tune(0, 1, 0, 6), false, api.ErrOrganAsk},
		{book(), tune(0, 1, 0, -1), false, api.ErrOrganAsk},
		{plain(1), tune(0, 0, 0, 0), false, api.ErrOrganAsk},
		{book(torn), tune(0, 0, 0, 0), false, api.ErrOrganAsk},
		{book(torn), tune(0, 1, 4, 2), false, api.ErrOrganFalse},
		{book(hoarse), tune(0, 1, 4, 2), false, api.ErrOrganFalse},
		{book(forked), tune(1, 2, 0, 5), false, api.ErrOrganFalse},
	} {
		if is, e := organ.Fits(x.b, x.tune); is != x.want || e != x.e {
			t.Errorf("Fits %d: %v, %d", i, is, e)
		}
	}
}

// P8.6
func TestWrong(t *testing.T) {
	around := func(l ...api.OrganTune) api.OrganBook { return plain(3, tunes(l...)) }
	up, upAgain, wide := tune(0, 1, 5, 0), tune(1, 2, 5, 0), tune(0, 2, 10, 0)
	for i, x := range []struct {
		b    api.OrganBook
		want []int
		e    api.Errno
	}{
		{book(), nil, api.OK},
		{book(torn), []int{3}, api.OK},
		{plain(1), nil, api.OK},
		{around(up, upAgain, wide), nil, api.OK},
		// Any of the three could be left out: the first one is.
		{around(up, upAgain, tune(0, 2, 11, 0)), []int{0}, api.OK},
		{around(tune(0, 2, 11, 0), up, upAgain), []int{0}, api.OK},
		// Two that are alike stand against one.
		{around(tune(0, 1, 6, 0), up, up), []int{0}, api.OK},
		{around(up, tune(0, 1, 6, 0), up), []int{1}, api.OK},
		{around(up, up, tune(0, 1, 6, 0)), []int{2}, api.OK},
		{around(up, up, tune(0, 1, 6, 0), tune(0, 1, 6, 0)), []int{0, 1}, api.OK},
		{around(up, tune(0, 1, 6, 0), tune(0, 1, 6, 0), up), []int{0, 3}, api.OK},
		// One that comes later is better than two.
		{around(up, up, wide, tune(1, 2, 6, 0), tune(1, 2, 5, 0)), []int{3}, api.OK},
		{around(up, tune(0, 1, 6, 0), tune(0, 1, 7, 0), tune(0, 1, 8, 0), tune(0, 1, 9, 0), tune(0, 1, 10, 0)), []int{0, 1, 2, 3, 4}, api.OK},
		{around(up, tune(0, 1, 6, 0), upAgain, tune(1, 2, 6, 0)), []int{0, 2}, api.OK},
		{around(tune(0, 1, 5, 1), tune(0, 1, 7, 1), tune(0, 1, 9, 1)), []int{0}, api.OK},
		{around(tune(0, 1, 5, 1), tune(0, 1, 9, 1), tune(0, 1, 7, 1)), []int{0}, api.OK},
		{around(tune(0, 1, 5, 1), tune(0, 1, 9, 1), tune(0, 1, 7, 1), tune(0, 1, 5, 0)), []int{0, 3}, api.OK},
		{around(tune(0, 1, 5, 1), tune(0, 1, 9, 1), tune(0, 1, 6, 1), tune(0, 1, 5, 0)), []int{1}, api.OK},
		// Forks, and how far a pipe can be from the town's, make all tunings false that stand against them.
		{plain(2, forks(fork(0, 0, 0), fork(1, 8, 0)), tunes(tune(0, 1, 5, 2), tune(0, 1, 5, 2), tune(0, 1, 7, 1))), []int{0, 1}, api.OK},
		{plain(2, forks(fork(0, 60, 0)), tunes(tune(0, 1, 30, 5), tune(0, 1, 0, 0), tune(1, 0, -8, 5))), []int{0, 2}, api.OK},
		{plain(2, forks(fork(0, 60, 0), fork(1, -60, 0)), tunes(tune(0, 1, 0, 0))), []int{0}, api.OK},
		{book(forked), nil, api.ErrOrganFalse},
		{book(forked, torn), nil, api.ErrOrganFalse},
		{book(forked, tunes()), nil, api.ErrOrganFalse},
		{book(hoarse), nil, api.ErrOrganFalse},
		{book(hoarse, torn), nil, api.ErrOrganFalse},
	} {
		if l, e := organ.Wrong(x.b); !slices.Equal(l, x.want) || e != x.e {
			t.Errorf("Wrong %d: %v, %d", i, l, e)
		}
	}
}

// P8.7: lists have room for more, so that whoever writes behind their ends is found out.
func TestMemory(t *testing.T) {
	b := book(torn)
	spare := append(make([]api.OrganTune, 0, 9), b.Tunes...)
	b.Tunes = spare[:3]
	parts := append(make([]api.OrganPart, 0, 9), part(1, 8, 15))
	was := slices.Clone(spare[:9])
	if is, e := organ.Fits(b, tune(0, 1, 4, 2)); !is || e != api.OK {
		t.Errorf("Fits: %v, %d", is, e)
	}
	if l, e := organ.Keys(b, 0, parts); len(l) != 2 || e != api.OK {
		t.Errorf("Keys: %v, %d", l, e)
	}
	b.Tunes = spare[:4]
	if l, e := organ.Wrong(b); len(l) != 1 || e != api.OK {
		t.Errorf("Wrong: %v, %d", l, e)
	}
	if !slices.Equal(spare[:9], was) || parts[:2][1] != (api.OrganPart{}) || parts[0] != part(1, 8, 15) {
		t.Errorf("written: %v, %v", spare[:9], parts[:2])
	}
	for name, call := range map[string]func() []int{
		"Keys":  func() []int { l, _ := organ.Keys(book(), 0, parts); return l },
		"Wrong": func() []int { l, _ := organ.Wrong(b); return l },
	} {
		one := call()
		want := slices.Clone(one)
		for i := range one {
			one[i] = 77
		}
		if len(want) == 0 || !slices.Equal(call(), want) {
			t.Errorf("%s: two results share memory", name)
		}
	}
}
