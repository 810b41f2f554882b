package bench_test

import (
	"math"
	"slices"
	"testing"

	"decani/api"
	"decani/bench"
)

func span(low, high int) api.Span { return api.Span{Low: low, High: high} }

func just(n int) api.Span { return span(n, n) }

func part(low, high, many int) api.BenchPart {
	return api.BenchPart{Notes: span(low, high), Many: many}
}

func piece(week int, parts ...api.BenchPart) api.BenchPiece {
	return api.BenchPiece{Week: week, Parts: parts}
}

// seats are told by three numbers each: the piece, the part and the boy.
func seats(n ...int) []api.BenchSeat {
	var l []api.BenchSeat
	for three := range slices.Chunk(n, 3) {
		l = append(l, api.BenchSeat{Piece: three[0], Part: three[1], Boy: three[2]})
	}
	return l
}

func trial(boy, week, note, sang int) api.VoiceTrial {
	return api.VoiceTrial{Boy: boy, Week: week, Note: note, Sang: sang}
}

// sings is a boy who always sings all notes from low to high, and no others.
func sings(low, high int) api.VoiceBoy {
	return api.VoiceBoy{Low: just(low), High: just(high), Break: just(9)}
}

type change func(b *api.BenchBook)

func boys(l ...api.VoiceBoy) change {
	return func(b *api.BenchBook) { b.Voice.Boys = slices.Clone(l) }
}

func weeks(n int) change { return func(b *api.BenchBook) { b.Voice.Weeks = n } }

func trials(l ...api.VoiceTrial) change {
	return func(b *api.BenchBook) { b.Voice.Trials = slices.Clone(l) }
}

func pieces(l ...api.BenchPiece) change {
	return func(b *api.BenchBook) { b.Pieces = slices.Clone(l) }
}

func most(n int) change { return func(b *api.BenchBook) { b.Most = n } }

// first puts another part in the place of the first one of a piece.
func first(piece int, p api.BenchPart) change {
	return func(b *api.BenchBook) {
		b.Pieces = slices.Clone(b.Pieces)
		parts := slices.Clone(b.Pieces[piece].Parts)
		parts[0] = p
		b.Pieces[piece].Parts = parts
	}
}

// book is that of the chapter's examples, changed.
func book(changes ...change) api.BenchBook {
	b := api.BenchBook{
		Voice: api.VoiceBook{
			Boys: []api.VoiceBoy{
				{Low: span(5, 6), High: span(20, 21), Gain: span(1, 2), Turn: span(2, 3), Loss: 1, Break: span(3, 5)},
				{Low: just(8), High: just(18), Gain: span(0, 1), Turn: just(1), Break: span(6, 7)},
			},
			Weeks: 4,
		},
		Pieces: []api.BenchPiece{
			piece(0, part(6, 20, 1), part(8, 18, 1)),
			piece(3, part(8, 18, 1)),
			piece(3, part(10, 18, 1)),
		},
		Most: 1,
	}
	for _, c := range changes {
		c(&b)
	}
	return b
}

var (
	easy = most(2)
	high = first(0, part(6, 24, 1))
	torn = trials(trial(0, 3, 15, 0), trial(0, 3, 20, 1))
)

// ladder is a book with three boys who always sing 0 to 10, 0 to 20 and 0 to 30, and one who sings nothing.
func ladder(changes ...change) api.BenchBook {
	b := api.BenchBook{
		Voice:  api.VoiceBook{Boys: []api.VoiceBoy{sings(0, 10), sings(0, 20), sings(0, 30), sings(1, 0)}, Weeks: 2},
		Pieces: []api.BenchPiece{piece(0, part(0, 10, 1))},
		Most:   1,
	}
	for _, c := range changes {
		c(&b)
	}
	return b
}

// invalid are changes that each make the book of the examples a wrong one.
var invalid = map[string]change{
	"nothing":             func(b *api.BenchBook) { *b = api.BenchBook{} },
	"no boys":             boys(),
	"too many boys":       boys(make([]api.VoiceBoy, api.VoiceBoys+1)...),
	"wrong boy":           boys(sings(0, 41)),
	"no week":             weeks(0),
	"too many weeks":      weeks(api.VoiceWeeks + 1),
	"wrong trial":         trials(trial(2, 0, 0, 0)),
	"no piece":            pieces(),
	"too many pieces":     pieces(slices.Repeat([]api.BenchPiece{piece(0, part(0, 0, 1))}, api.BenchPieces+1)...),
	"piece's week -1":     pieces(piece(-1, part(0, 0, 1))),
	"piece's week after":  pieces(piece(0, part(0, 0, 1)), piece(4, part(0, 0, 1))),
	"no part":             pieces(piece(0)),
	"too many parts":      pieces(piece(0, slices.Repeat([]api.BenchPart{part(0, 0, 1)}, api.BenchParts+1)...)),
	"notes below 0":       first(0, part(-1, 20, 1)),
	"notes above 40":      first(1, part(8, 41, 1)),
	"notes end first":     first(2, part(18, 17, 1)),
	"notes of all":        first(2, part(math.MinInt, math.MaxInt, 1)),
	"second part's notes": pieces(piece(0, part(0, 0, 1), part(0, 41, 1))),
	"nobody is wanted":    first(0, part(6, 20, 0)),
	"fewer are wanted":    first(0, part(6, 20, -1)),
	"too many are wanted": first(2, part(6, 20, api.BenchMany+1)),
	"no pieces in a week": most(0),
	"fewer in a week":     most(-1),
	"too many in a week":  most(api.BenchMost + 1),
}

// valid are changes to the limits of what a book can be.
var valid = map[string]change{
	"as it is": func(*api.BenchBook) {},
	"all least": func(b *api.BenchBook) {
		*b = api.BenchBook{
			Voice:  api.VoiceBook{Boys: make([]api.VoiceBoy, 1), Weeks: 1},
			Pieces: []api.BenchPiece{piece(0, part(0, 0, 1))},
			Most:   1,
		}
	},
	"all greatest": func(b *api.BenchBook) {
		*b = api.BenchBook{
			Voice:  api.VoiceBook{Boys: make([]api.VoiceBoy, api.VoiceBoys), Weeks: api.VoiceWeeks},
			Pieces: slices.Repeat([]api.BenchPiece{piece(5, part(0, 40, 3), part(40, 40, 3), part(0, 0, 3))}, 3),
			Most:   3,
		}
	},
	"same part twice":    pieces(piece(0, part(8, 18, 1), part(8, 18, 1))),
	"more than all boys": first(1, part(8, 18, 3)),
	"false as it is":     torn,
}

// P7.1
func TestCheck(t *testing.T) {
	for name, c := range valid {
		if e := bench.Check(book(c)); e != api.OK {
			t.Errorf("%s: %d", name, e)
		}
	}
	for name, c := range invalid {
		b := book(c)
		// What is asked is wrong, too: the error of the book comes first.
		errors := []api.Errno{bench.Check(b)}
		can, e := bench.Can(b, 9, -1)
		errors = append(errors, e)
		lack, e := bench.Lack(b, -1)
		errors = append(errors, e)
		may, e := bench.May(b, []int{9}, nil)
		errors = append(errors, e)
		ways, e := bench.Ways(b)
		errors = append(errors, e)
		fill, e := bench.Fill(b)
		errors = append(errors, e)
		change, e := bench.Change(b)
		errors = append(errors, e)
		kept, e := bench.Seats(b)
		errors = append(errors, e)
		need, e := bench.Need(b)
		errors = append(errors, e)
		for i, e := range errors {
			if e != api.ErrBench {
				t.Errorf("%s: call %d: %d", name, i, e)
			}
		}
		if may || lack != 0 || ways != 0 || len(can)+len(fill)+len(change)+len(kept)+len(need) != 0 {
			t.Errorf("%s: a result beside the error", name)
		}
	}
}

// P7.1
func TestCan(t *testing.T) {
	alone := func(week int, p api.BenchPart) change { return pieces(piece(week, p)) }
	for i, x := range []struct {
		b           api.BenchBook
		piece, part int
		want        []int
		e           api.Errno
	}{
		{book(), 0, 0, []int{0}, api.OK},
		{book(), 0, 1, []int{0, 1}, api.OK},
		{book(), 1, 0, []int{1}, api.OK},
		{book(), 2, 0, []int{1}, api.OK},
		{book(high), 0, 0, nil, api.OK},
		{book(high), 0, 1, []int{0, 1}, api.OK},
		// That a boy may sing it is not enough: at either end, or for a voice that may break.
		{book(alone(0, part(6, 21, 1))), 0, 0, nil, api.OK},
		{book(alone(0, part(5, 20, 1))), 0, 0, nil, api.OK},
		{book(alone(0, part(8, 19, 1))), 0, 0, []int{0}, api.OK},
		{book(alone(0, part(7, 18, 1))), 0, 0, []int{0}, api.OK},
		{book(alone(1, part(6, 21, 1))), 0, 0, []int{0}, api.OK},
		{book(alone(2, part(6, 22, 1))), 0, 0, []int{0}, api.OK},
		{book(alone(2, part(6, 23, 1))), 0, 0, nil, api.OK},
		{book(alone(3, part(10, 10, 1))), 0, 0, []int{1}, api.OK},
		// A trial makes it sure, or not so any more.
		{book(trials(trial(0, 3, 15, 1))), 1, 0, []int{0, 1}, api.OK},
		{book(trials(trial(0, 0, 20, 1), trial(0, 0, 5, 0)), alone(0, part(6, 20, 1))), 0, 0, []int{0}, api.OK},
		{book(trials(trial(0, 0, 21, 1)), alone(0, part(6, 21, 1))), 0, 0, []int{0}, api.OK},
		// How many it wants, and how many pieces are in a week, is nothing to who can sing it.
		{ladder(pieces(piece(0, part(0, 10, 1)), piece(0, part(10, 10, 3)))), 1, 0, []int{0, 1, 2}, api.OK},
		{ladder(pieces(piece(0, part(0, 11, 3), part(20, 21, 1)))), 0, 1, []int{2}, api.OK},
		{book(), 3, 0, nil, api.ErrBenchAsk},
		{book(), -1, 0, nil, api.ErrBenchAsk},
		{book(), 0, 2, nil, api.ErrBenchAsk},
		{book(), 1, 1, nil, api.ErrBenchAsk},
		{book(torn), 0, -1, nil, api.ErrBenchAsk},
		{book(torn), math.MaxInt, math.MinInt, nil, api.ErrBenchAsk},
		{book(torn), 0, 0, nil, api.ErrBenchFalse},
		// The trials of a boy who has nothing to do with it make the book false, too.
		{book(torn), 1, 0, nil, api.ErrBenchFalse},
	} {
		if l, e := bench.Can(x.b, x.piece, x.part); !slices.Equal(l, x.want) || e != x.e {
			t.Errorf("Can %d: %v, %d", i, l, e)
		}
	}
}

// P7.2
func TestLack(t *testing.T) {
	alone := func(parts ...api.BenchPart) api.BenchBook { return ladder(pieces(piece(0, parts...))) }
	for i, x := range []struct {
		b     api.BenchBook
		piece int
		want  int
		e     api.Errno
	}{
		{book(), 0, 0, api.ErrNone},
		{book(), 2, 0, api.ErrNone},
		{book(high), 0, 0, api.OK},
		{alone(part(0, 10, 1), part(0, 31, 1)), 0, 1, api.OK},
		{alone(part(0, 10, 1), part(0, 20, 1), part(0, 30, 1)), 0, 0, api.ErrNone},
		{alone(part(0, 10, 3)), 0, 0, api.ErrNone},
		{alone(part(0, 11, 3)), 0, 0, api.OK},
		{alone(part(0, 10, 2), part(0, 20, 1), part(0, 10, 1)), 0, 2, api.OK},
		// Each part has enough boys, but not all of them together.
		{alone(part(0, 30, 1), part(0, 20, 1), part(0, 11, 1)), 0, 2, api.OK},
		{alone(part(0, 30, 1), part(0, 20, 2), part(0, 10, 1)), 0, 1, api.OK},
		// The parts before it do not take the first boys that can sing them, but those who can sing nothing else.
		{alone(part(0, 10, 1), part(0, 10, 1), part(0, 10, 1)), 0, 0, api.ErrNone},
		{alone(part(0, 20, 1), part(0, 30, 1), part(0, 10, 1)), 0, 0, api.ErrNone},
		// Other pieces of the week are nothing to it.
		{book(), 1, 0, api.ErrNone},
		{ladder(pieces(piece(0, part(0, 40, 1)), piece(0, part(0, 30, 1)), piece(0, part(0, 30, 1)))), 2, 0, api.ErrNone},
		{ladder(pieces(piece(0, part(0, 30, 1)), piece(0, part(0, 30, 1)), piece(0, part(0, 30, 1), part(0, 40, 1)))), 2, 1, api.OK},
		{book(), 3, 0, api.ErrBenchAsk},
		{book(), -1, 0, api.ErrBenchAsk},
		{book(torn), 3, 0, api.ErrBenchAsk},
		{book(torn), 0, 0, api.ErrBenchFalse},
	} {
		if n, e := bench.Lack(x.b, x.piece); n != x.want || e != x.e {
			t.Errorf("Lack %d: %d, %d", i, n, e)
		}
	}
}

// P7.3
func TestMay(t *testing.T) {
	two := pieces(piece(0, part(0, 10, 2), part(0, 10, 1)), piece(1, part(0, 20, 1)))
	week := pieces(piece(0, part(0, 10, 1)), piece(1, part(0, 10, 1)), piece(0, part(0, 10, 1)))
	for i, x := range []struct {
		b      api.BenchBook
		pieces []int
		seats  []api.BenchSeat
		want   bool
		e      api.Errno
	}{
		{book(), []int{0, 2}, seats(0, 0, 0, 0, 1, 1, 2, 0, 1), true, api.OK},
		{book(), []int{0}, seats(0, 0, 0, 0, 1, 0), false, api.OK},
		{book(), []int{0}, seats(0, 1, 1, 0, 0, 0), false, api.OK},
		{book(), []int{0}, seats(0, 0, 0, 0, 1, 1), true, api.OK},
		// For no pieces there are no seats.
		{book(), nil, nil, true, api.OK},
		{book(), []int{}, seats(0, 0, 0), false, api.OK},
		{book(), []int{0}, nil, false, api.OK},
		// A boy who may sing it does not surely.
		{book(), []int{1}, seats(1, 0, 0), false, api.OK},
		{book(), []int{1}, seats(1, 0, 1), true, api.OK},
		// Each part has its boys: not one fewer, nor one more.
		{book(), []int{0}, seats(0, 0, 0), false, api.OK},
		{book(), []int{0}, seats(0, 1, 1), false, api.OK},
		{book(), []int{0, 1}, seats(0, 0, 0, 0, 1, 1), false, api.OK},
		{book(), []int{1}, seats(0, 0, 0, 0, 1, 1, 1, 0, 1), false, api.OK},
		{ladder(), []int{0}, seats(0, 0, 1, 0, 0, 2), false, api.OK},
		{ladder(two), []int{0}, seats(0, 0, 0, 0, 0, 1, 0, 1, 2), true, api.OK},
		{ladder(two), []int{0}, seats(0, 0, 1, 0, 0, 2, 0, 1, 0), true, api.OK},
		{ladder(two), []int{0}, seats(0, 0, 0, 0, 1, 1, 0, 1, 2), false, api.OK},
		{ladder(two), []int{0}, seats(0, 0, 0, 0, 0, 1, 0, 0, 2), false, api.OK},
		// Each seat is behind the one before it, and no seat is there twice.
		{ladder(two), []int{0}, seats(0, 0, 1, 0, 0, 0, 0, 1, 2), false, api.OK},
		{ladder(two), []int{0}, seats(0, 0, 0, 0, 0, 0, 0, 1, 2), false, api.OK},
		{ladder(two), []int{0, 1}, seats(1, 0, 1, 0, 0, 0, 0, 0, 1, 0, 1, 2), false, api.OK},
		{ladder(two), []int{0, 1}, seats(0, 0, 0, 0, 0, 1, 0, 1, 2, 1, 0, 1), true, api.OK},
		// Nobody has two seats in a piece.
		{ladder(two), []int{0}, seats(0, 0, 0, 0, 0, 1, 0, 1, 0), false, api.OK},
		{ladder(two), []int{0}, seats(0, 0, 0, 0, 0, 1, 0, 1, 1), false, api.OK},
		// Nobody sings too many pieces in one week.
		{book(), []int{1, 2}, seats(1, 0, 1, 2, 0, 1), false, api.OK},
		{book(easy), []int{1, 2}, seats(1, 0, 1, 2, 0, 1), true, api.OK},
		{ladder(week), []int{0, 1, 2}, seats(0, 0, 0, 1, 0, 0, 2, 0, 0), false, api.OK},
		{ladder(week), []int{0, 1, 2}, seats(0, 0, 0, 1, 0, 0, 2, 0, 1), true, api.OK},
		{ladder(week), []int{0, 1}, seats(0, 0, 0, 1, 0, 0), true, api.OK},
		{ladder(week, most(2)), []int{0, 1, 2}, seats(0, 0, 0, 1, 0, 0, 2, 0, 0), true, api.OK},
		// Whatever numbers are in them.
		{book(), []int{1}, seats(1, 0, -1), false, api.OK},
		{book(), []int{1}, seats(1, 0, 2), false, api.OK},
		{book(), []int{1}, seats(1, 0, 4), false, api.OK},
		{book(), []int{1}, seats(1, 0, math.MaxInt), false, api.OK},
		{book(), []int{1}, seats(1, 1, 1), false, api.OK},
		{book(), []int{1}, seats(1, -1, 1), false, api.OK},
		{book(), []int{1}, seats(3, 0, 1), false, api.OK},
		{book(), []int{1}, seats(-1, 0, 1), false, api.OK},
		{book(), []int{1}, seats(math.MinInt, math.MaxInt, math.MinInt), false, api.OK},
		{book(), []int{0, 1, 2}, make([]api.BenchSeat, 100), false, api.OK},
		{book(), []int{3}, nil, false, api.ErrBenchAsk},
		{book(), []int{-1}, nil, false, api.ErrBenchAsk},
		{book(), []int{0, 3}, nil, false, api.ErrBenchAsk},
		{book(), []int{0, 0}, nil, false, api.ErrBenchAsk},
		{book(), []int{1, 0}, nil, false, api.ErrBenchAsk},
		{book(torn), []int{0, 2, 1}, nil, false, api.ErrBenchAsk},
		{book(torn), []int{0, 1, 2, 3}, nil, false, api.ErrBenchAsk},
		{book(torn), nil, nil, false, api.ErrBenchFalse},
		{book(torn), []int{0, 1, 2}, seats(9, 9, 9), false, api.ErrBenchFalse},
	} {
		if is, e := bench.May(x.b, x.pieces, x.seats); is != x.want || e != x.e {
			t.Errorf("May %d: %v, %d", i, is, e)
		}
	}
}

// same are boys who all sing everything that is wanted here.
func same(n int) change { return boys(slices.Repeat([]api.VoiceBoy{sings(0, 40)}, n)...) }

// P7.4
func TestWaysAndFill(t *testing.T) {
	one := part(0, 10, 1)
	alone := func(parts ...api.BenchPart) change { return pieces(piece(0, parts...)) }
	for i, x := range []struct {
		b    api.BenchBook
		ways int
		fill []api.BenchSeat
		e    api.Errno
	}{
		{book(), 0, nil, api.OK},
		{book(easy), 1, seats(0, 0, 0, 0, 1, 1, 1, 0, 1, 2, 0, 1), api.OK},
		{book(high), 0, nil, api.OK},
		{book(high, easy), 0, nil, api.OK},
		{ladder(), 3, seats(0, 0, 0), api.OK},
		{ladder(alone(part(0, 10, 2))), 3, seats(0, 0, 0, 0, 0, 1), api.OK},
		{ladder(alone(one, one)), 6, seats(0, 0, 0, 0, 1, 1), api.OK},
		{ladder(alone(part(0, 20, 1), one)), 4, seats(0, 0, 1, 0, 1, 0), api.OK},
		{ladder(alone(one, one, part(0, 10, 2))), 0, nil, api.OK},
		// The first boy who can sing a part is not always the one for it.
		{ladder(alone(part(10, 20, 1), part(10, 20, 1), one)), 2, seats(0, 0, 1, 0, 1, 2, 0, 2, 0), api.OK},
		{ladder(boys(sings(0, 20), sings(0, 10)), alone(one, part(0, 20, 1))), 1, seats(0, 0, 1, 0, 1, 0), api.OK},
		{ladder(boys(sings(0, 20), sings(0, 10), sings(0, 30)), alone(part(0, 10, 2), part(0, 20, 1))), 2, seats(0, 0, 0, 0, 0, 1, 0, 1, 2), api.OK},
		// Weeks are nothing to each other; in one week a boy sings as many as are allowed.
		{ladder(pieces(piece(0, one), piece(1, one))), 9, seats(0, 0, 0, 1, 0, 0), api.OK},
		{ladder(pieces(piece(0, one), piece(0, one))), 6, seats(0, 0, 0, 1, 0, 1), api.OK},
		{ladder(pieces(piece(0, one), piece(0, one)), most(2)), 9, seats(0, 0, 0, 1, 0, 0), api.OK},
		{ladder(pieces(piece(0, one), piece(0, one), piece(0, one)), most(2)), 24, seats(0, 0, 0, 1, 0, 0, 2, 0, 1), api.OK},
		{ladder(pieces(piece(0, one), piece(0, one), piece(0, one)), most(3)), 27, seats(0, 0, 0, 1, 0, 0, 2, 0, 0), api.OK},
		{ladder(pieces(piece(0, one), piece(1, one), piece(0, one))), 18, seats(0, 0, 0, 1, 0, 0, 2, 0, 1), api.OK},
		{ladder(pieces(piece(0, part(0, 10, 2)), piece(0, part(0, 10, 2)))), 0, nil, api.OK},
		{ladder(pieces(piece(0, part(0, 10, 2)), piece(0, part(0, 30, 1)))), 1, seats(0, 0, 0, 0, 0, 1, 1, 0, 2), api.OK},
		// As many as there can be.
		{ladder(same(4), pieces(slices.Repeat([]api.BenchPiece{piece(0, one, one, one)}, 3)...), most(3)), 24 * 24 * 24,
			seats(0, 0, 0, 0, 1, 1, 0, 2, 2, 1, 0, 0, 1, 1, 1, 1, 2, 2, 2, 0, 0, 2, 1, 1, 2, 2, 2), api.OK},
		{book(torn), 0, nil, api.ErrBenchFalse},
	} {
		if n, e := bench.Ways(x.b); n != x.ways || e != x.e {
			t.Errorf("Ways %d: %d, %d", i, n, e)
		}
		e := x.e
		if e == api.OK && x.ways == 0 {
			e = api.ErrNone
		}
		if l, f := bench.Fill(x.b); !slices.Equal(l, x.fill) || f != e {
			t.Errorf("Fill %d: %v, %d", i, l, f)
		}
	}
}

// P7.5, P7.6
func TestChangeAndSeats(t *testing.T) {
	one, two, three, none := part(0, 10, 1), part(0, 10, 2), part(0, 10, 3), part(0, 40, 1)
	for i, x := range []struct {
		b      api.BenchBook
		change []int
		seats  []api.BenchSeat
		e      api.Errno
	}{
		{book(), []int{1}, seats(0, 0, 0, 0, 1, 1, 2, 0, 1), api.OK},
		{book(easy), nil, seats(0, 0, 0, 0, 1, 1, 1, 0, 1, 2, 0, 1), api.OK},
		{book(high), []int{0, 1}, seats(2, 0, 1), api.OK},
		{book(high, easy), []int{0}, seats(1, 0, 1, 2, 0, 1), api.OK},
		{ladder(), nil, seats(0, 0, 0), api.OK},
		{ladder(pieces(piece(0, none))), []int{0}, nil, api.OK},
		{ladder(pieces(piece(0, none), piece(1, one), piece(0, none))), []int{0, 2}, seats(1, 0, 0), api.OK},
		{ladder(pieces(piece(0, none), piece(1, none), piece(0, none))), []int{0, 1, 2}, nil, api.OK},
		// The piece 0 stands against both others, which can be sung together.
		{ladder(pieces(piece(0, three), piece(0, one), piece(0, two))), []int{0}, seats(1, 0, 0, 2, 0, 1, 2, 0, 2), api.OK},
		{ladder(pieces(piece(0, one), piece(0, two), piece(0, three))), []int{2}, seats(0, 0, 0, 1, 0, 1, 1, 0, 2), api.OK},
		{ladder(pieces(piece(0, two), piece(0, three), piece(0, one))), []int{1}, seats(0, 0, 0, 0, 0, 1, 2, 0, 2), api.OK},
		// One that comes later is better than two; of several lists of two the first one.
		{ladder(pieces(piece(0, two), piece(1, three), piece(0, two))), []int{0}, seats(1, 0, 0, 1, 0, 1, 1, 0, 2, 2, 0, 0, 2, 0, 1), api.OK},
		{ladder(pieces(piece(0, two), piece(0, two), piece(0, two))), []int{0, 1}, seats(2, 0, 0, 2, 0, 1), api.OK},
		{ladder(pieces(piece(0, two), piece(0, two), piece(0, none))), []int{0, 2}, seats(1, 0, 0, 1, 0, 1), api.OK},
		{ladder(pieces(piece(0, two), piece(0, two), piece(0, two)), most(2)), nil, seats(0, 0, 0, 0, 0, 1, 1, 0, 0, 1, 0, 2, 2, 0, 1, 2, 0, 2), api.OK},
		{ladder(pieces(piece(0, three), piece(0, three), piece(0, three)), most(2)), []int{0}, seats(1, 0, 0, 1, 0, 1, 1, 0, 2, 2, 0, 0, 2, 0, 1, 2, 0, 2), api.OK},
		{ladder(pieces(piece(0, three), piece(0, three), piece(1, three))), []int{0}, seats(1, 0, 0, 1, 0, 1, 1, 0, 2, 2, 0, 0, 2, 0, 1, 2, 0, 2), api.OK},
		{book(torn), nil, nil, api.ErrBenchFalse},
	} {
		if l, e := bench.Change(x.b); !slices.Equal(l, x.change) || e != x.e {
			t.Errorf("Change %d: %v, %d", i, l, e)
		}
		if l, e := bench.Seats(x.b); !slices.Equal(l, x.seats) || e != x.e {
			t.Errorf("Seats %d: %v, %d", i, l, e)
		}
	}
}

// P7.7
func TestNeed(t *testing.T) {
	one, two, none := part(0, 10, 1), part(0, 10, 2), part(0, 40, 1)
	for i, x := range []struct {
		b    api.BenchBook
		want []int
		e    api.Errno
	}{
		{book(), []int{0, 1}, api.OK},
		{book(easy), []int{0, 1}, api.OK},
		{book(high), []int{1}, api.OK},
		{ladder(), nil, api.OK},
		{ladder(pieces(piece(0, part(0, 20, 1)))), nil, api.OK},
		{ladder(pieces(piece(0, part(0, 21, 1)))), []int{2}, api.OK},
		{ladder(pieces(piece(0, part(0, 20, 2)))), []int{1, 2}, api.OK},
		{ladder(pieces(piece(0, two))), nil, api.OK},
		{ladder(pieces(piece(0, two, one))), []int{0, 1, 2}, api.OK},
		{ladder(boys(sings(0, 10), sings(0, 10), sings(0, 10), sings(0, 10)), pieces(piece(0, two, one))), nil, api.OK},
		// Where all pieces must be changed, or one as it is, nobody is needed.
		{ladder(pieces(piece(0, none))), nil, api.OK},
		{ladder(pieces(piece(0, two), piece(0, two))), nil, api.OK},
		// Another piece must be changed without a boy, but no more of them.
		{ladder(boys(sings(0, 10), sings(10, 20)), pieces(piece(0, one), piece(0, part(10, 20, 1), one))), []int{0}, api.OK},
		{ladder(boys(sings(0, 10), sings(0, 20)), pieces(piece(0, part(0, 20, 1)), piece(0, one), piece(1, part(0, 20, 1)))), []int{0, 1}, api.OK},
		{ladder(pieces(piece(0, one), piece(0, one)), boys(sings(0, 10), sings(0, 10))), []int{0, 1}, api.OK},
		{ladder(pieces(piece(0, one), piece(0, one)), boys(sings(0, 10), sings(0, 10)), most(2)), nil, api.OK},
		{ladder(pieces(piece(0, one), piece(1, one)), boys(sings(0, 10))), []int{0}, api.OK},
		{book(torn), nil, api.ErrBenchFalse},
	} {
		if l, e := bench.Need(x.b); !slices.Equal(l, x.want) || e != x.e {
			t.Errorf("Need %d: %v, %d", i, l, e)
		}
	}
}

// P7.8: lists have room for more, so that whoever writes behind their ends is found out.
func TestMemory(t *testing.T) {
	b := book(easy)
	spare := append(make([]api.BenchSeat, 0, 9), seats(0, 0, 0, 0, 1, 1, 1, 0, 1, 2, 0, 1)...)
	chosen := append(make([]int, 0, 9), 0, 1)
	was := slices.Clone(spare[:9])
	if is, e := bench.May(b, chosen, spare[:3]); !is || e != api.OK {
		t.Errorf("May: %v, %d", is, e)
	}
	if !slices.Equal(spare[:9], was) || !slices.Equal(chosen[:9], []int{0, 1, 0, 0, 0, 0, 0, 0, 0}) {
		t.Errorf("May wrote: %v, %v", spare[:9], chosen[:9])
	}
	for name, call := range map[string]func() []int{
		"Can":    func() []int { l, _ := bench.Can(b, 0, 1); return l },
		"Change": func() []int { l, _ := bench.Change(book(high)); return l },
		"Need":   func() []int { l, _ := bench.Need(b); return l },
	} {
		one := call()
		want := slices.Clone(one)
		for i := range one {
			one[i] = 77
		}
		if len(want) == 0 || !slices.Equal(call(), want) {
			t.Errorf("%s: two results share memory", name)
		}
	}
	for name, call := range map[string]func(b api.BenchBook) ([]api.BenchSeat, api.Errno){"Fill": bench.Fill, "Seats": bench.Seats} {
		one, _ := call(b)
		want := slices.Clone(one)
		clear(one)
		if other, _ := call(b); len(want) == 0 || !slices.Equal(other, want) {
			t.Errorf("%s: two results share memory", name)
		}
	}
}
