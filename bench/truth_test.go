package bench_test

// The functions against a second calculation, in which each boy is given a part of each piece or none, and the properties P7.9 to P7.14, for many books.

import (
	"cmp"
	"math/rand"
	"reflect"
	"slices"
	"testing"

	"decani/api"
	"decani/bench"
	"decani/voice"
)

// real is what is truly so of one boy: the lowest and the highest note, the gain, the turn, and the week in which the voice breaks.
type real [5]int

// spans are what is known of a boy, in the order of real.
func spans(boy api.VoiceBoy) [5]api.Span {
	return [...]api.Span{boy.Low, boy.High, boy.Gain, boy.Turn, boy.Break}
}

// top lets the highest note rise and fall, week by week.
func top(boy api.VoiceBoy, r real, week int) int {
	note := r[1]
	for w := range week {
		if w < r[3] {
			note += r[2]
		} else {
			note -= boy.Loss
		}
	}
	return note
}

func plainSings(boy api.VoiceBoy, r real, week, note int) bool {
	return week < r[4] && r[0] <= note && note <= top(boy, r, week)
}

func plainRight(v api.VoiceBook, boy int, r real) bool {
	for _, t := range v.Trials {
		if t.Boy == boy && plainSings(v.Boys[boy], r, t.Week, t.Note) != (t.Sang == 1) {
			return false
		}
	}
	return true
}

// plainReals are all that may be so of a boy. It counts up, number by number.
func plainReals(v api.VoiceBook, boy int) []real {
	known := spans(v.Boys[boy])
	var r real
	for i, s := range known {
		r[i] = s.Low
	}
	var reals []real
	for {
		if plainRight(v, boy, r) {
			reals = append(reals, r)
		}
		i := 0
		for i < len(r) && r[i] == known[i].High {
			r[i] = known[i].Low
			i++
		}
		if i == len(r) {
			return reals
		}
		r[i]++
	}
}

// plainBook is a book, and of each piece, part and boy whether this boy surely can sing it.
type plainBook struct {
	api.BenchBook
	can [3][3][4]bool
}

// newPlain looks at each truth, week and note.
func newPlain(b api.BenchBook) plainBook {
	p := plainBook{BenchBook: b}
	for boy := range b.Voice.Boys {
		reals := plainReals(b.Voice, boy)
		for i, piece := range b.Pieces {
			for j, part := range piece.Parts {
				p.can[i][j][boy] = !slices.ContainsFunc(reals, func(r real) bool {
					return !truly(b.Voice.Boys[boy], r, piece.Week, part.Notes)
				})
			}
		}
	}
	return p
}

// truly reports whether a boy can sing each of these notes.
func truly(boy api.VoiceBoy, r real, week int, notes api.Span) bool {
	for note := notes.Low; note <= notes.High; note++ {
		if !plainSings(boy, r, week, note) {
			return false
		}
	}
	return true
}

// dealt tells which part each boy sings, or -1.
type dealt [4]int

// deals are all that give the first parts of a piece their boys, if this piece is the only one.
func (p plainBook) deals(piece, parts, out int) []dealt {
	var deals []dealt
	for code := range 4 * 4 * 4 * 4 {
		var d dealt
		for boy := range d {
			d[boy] = code%4 - 1
			code /= 4
		}
		if p.suits(d, piece, parts, out) {
			deals = append(deals, d)
		}
	}
	return deals
}

func (p plainBook) suits(d dealt, piece, parts, out int) bool {
	var sung [3]int
	for boy, part := range d {
		if part < 0 {
			continue
		}
		if boy >= len(p.Voice.Boys) || boy == out || part >= parts || !p.can[piece][part][boy] {
			return false
		}
		sung[part]++
	}
	for part := range parts {
		if sung[part] != p.Pieces[piece].Parts[part].Many {
			return false
		}
	}
	return true
}

// all are all seats that are right for these pieces, in any order, without one boy.
func (p plainBook) all(pieces []int, out int) [][]api.BenchSeat {
	many := [][]api.BenchSeat{nil}
	for _, piece := range pieces {
		var more [][]api.BenchSeat
		for _, d := range p.deals(piece, len(p.Pieces[piece].Parts), out) {
			for _, before := range many {
				if l := slices.Concat(before, inOrder(piece, d)); p.spares(l) {
					more = append(more, l)
				}
			}
		}
		many = more
	}
	return many
}

// inOrder are the seats of a piece.
func inOrder(piece int, d dealt) []api.BenchSeat {
	var l []api.BenchSeat
	for part := range 3 {
		for boy := range d {
			if d[boy] == part {
				l = append(l, api.BenchSeat{Piece: piece, Part: part, Boy: boy})
			}
		}
	}
	return l
}

// spares reports whether nobody sings too many pieces in any week.
func (p plainBook) spares(l []api.BenchSeat) bool {
	sung := map[[2]int]int{}
	for _, s := range l {
		at := [2]int{s.Boy, p.Pieces[s.Piece].Week}
		sung[at]++
		if sung[at] > p.Most {
			return false
		}
	}
	return true
}

// rest are all pieces but some.
func rest(b api.BenchBook, but []int) []int {
	var l []int
	for i := range b.Pieces {
		if !slices.Contains(but, i) {
			l = append(l, i)
		}
	}
	return l
}

// choices are all lists of pieces, the fewest first, then the first ones.
func choices(b api.BenchBook) [][]int {
	lists := [][]int{nil, {0}, {1}, {2}, {0, 1}, {0, 2}, {1, 2}, {0, 1, 2}}
	return slices.DeleteFunc(lists, func(l []int) bool { return len(l) > 0 && l[len(l)-1] >= len(b.Pieces) })
}

// change are the pieces that must be changed without one boy.
func (p plainBook) change(out int) []int {
	for _, l := range choices(p.BenchBook) {
		if len(p.all(rest(p.BenchBook, l), out)) > 0 {
			return l
		}
	}
	return nil
}

// nobody stands for the boy who is left out where none is.
const nobody = -1

func compareSeats(one, other []api.BenchSeat) int {
	return slices.CompareFunc(one, other, func(s, t api.BenchSeat) int {
		return cmp.Or(s.Piece-t.Piece, s.Part-t.Part, s.Boy-t.Boy)
	})
}

func anySpan(r *rand.Rand, least, most, apart int) api.Span {
	low := least + r.Intn(most-least+1)
	return span(low, min(most, low+r.Intn(apart+1)))
}

func anyBoy(r *rand.Rand) api.VoiceBoy {
	return api.VoiceBoy{
		Low: anySpan(r, 0, 8, api.VoiceWide), High: anySpan(r, 14, 24, api.VoiceWide),
		Gain: anySpan(r, 0, 2, api.VoiceLean), Turn: anySpan(r, 0, 6, api.VoiceWide), Loss: r.Intn(3),
		Break: anySpan(r, 1, api.VoiceBreak, api.VoiceLate),
	}
}

func anyPart(r *rand.Rand) api.BenchPart {
	low := 4 + r.Intn(8)
	return part(low, low+r.Intn(10), 1+r.Intn(2)*r.Intn(3))
}

func anyPiece(r *rand.Rand, weeks int) api.BenchPiece {
	p := piece(r.Intn(weeks))
	for range 1 + r.Intn(3) {
		p.Parts = append(p.Parts, anyPart(r))
	}
	return p
}

// anyTrial is right in what is truly so.
func anyTrial(r *rand.Rand, v api.VoiceBook, truth []real) api.VoiceTrial {
	t := trial(r.Intn(len(v.Boys)), r.Intn(v.Weeks), r.Intn(30), 0)
	if plainSings(v.Boys[t.Boy], truth[t.Boy], t.Week, t.Note) {
		t.Sang = 1
	}
	return t
}

// anyBook is a book, and what is truly so: all of its trials are right.
func anyBook(r *rand.Rand) (api.BenchBook, []real) {
	b := api.BenchBook{Voice: api.VoiceBook{Weeks: 1 + r.Intn(3)}, Most: 1 + r.Intn(3)}
	var truth []real
	for boy := range 1 + r.Intn(4) + r.Intn(4)/3 {
		if boy < api.VoiceBoys {
			b.Voice.Boys = append(b.Voice.Boys, anyBoy(r))
			reals := plainReals(b.Voice, boy)
			truth = append(truth, reals[r.Intn(len(reals))])
		}
	}
	for range r.Intn(7) {
		b.Voice.Trials = append(b.Voice.Trials, anyTrial(r, b.Voice, truth))
	}
	for range 1 + r.Intn(3) {
		b.Pieces = append(b.Pieces, anyPiece(r, b.Voice.Weeks))
	}
	return b, truth
}

func deep(b api.BenchBook) api.BenchBook {
	b.Voice.Boys, b.Voice.Trials = slices.Clone(b.Voice.Boys), slices.Clone(b.Voice.Trials)
	b.Pieces = slices.Clone(b.Pieces)
	for i, p := range b.Pieces {
		b.Pieces[i].Parts = slices.Clone(p.Parts)
	}
	return b
}

func TestAgainstPlainDeals(t *testing.T) {
	r := rand.New(rand.NewSource(1))
	ways, changes := 0, 0
	for range 1200 {
		b, _ := anyBook(r)
		was, p := deep(b), newPlain(b)
		testCan(t, p)
		testLack(t, p)
		all := p.all(rest(b, nil), nobody)
		if n, e := bench.Ways(b); n != len(all) || e != api.OK {
			t.Fatalf("Ways %+v: %d, %d, not %d", b, n, e, len(all))
		}
		ways += min(1, len(all))
		l, e := bench.Fill(b)
		if len(all) == 0 && (len(l) > 0 || e != api.ErrNone) || len(all) > 0 && (compareSeats(l, slices.MinFunc(all, compareSeats)) != 0 || e != api.OK) {
			t.Fatalf("Fill %+v: %v, %d", b, l, e)
		}
		changes += testChange(t, p)
		testMay(t, p, r)
		if !reflect.DeepEqual(b, was) {
			t.Fatalf("changed: %+v, was %+v", b, was)
		}
	}
	if ways < 120 || changes < 120 {
		t.Errorf("too few books of a kind: %d have a way, %d are to be changed in part", ways, changes)
	}
}

func testCan(t *testing.T, p plainBook) {
	t.Helper()
	for i, piece := range p.Pieces {
		for j := range piece.Parts {
			var want []int
			for boy, can := range p.can[i][j] {
				if can {
					want = append(want, boy)
				}
			}
			if l, e := bench.Can(p.BenchBook, i, j); !slices.Equal(l, want) || e != api.OK {
				t.Fatalf("Can %+v, %d, %d: %v, not %v, %d", p.BenchBook, i, j, l, want, e)
			}
		}
	}
}

func testLack(t *testing.T, p plainBook) {
	t.Helper()
	for i, piece := range p.Pieces {
		want, wantE := 0, api.ErrNone
		for part := len(piece.Parts) - 1; part >= 0; part-- {
			if len(p.deals(i, part+1, nobody)) == 0 {
				want, wantE = part, api.OK
			}
		}
		if n, e := bench.Lack(p.BenchBook, i); n != want || e != wantE {
			t.Fatalf("Lack %+v, %d: %d, not %d, %d", p.BenchBook, i, n, want, e)
		}
	}
}

// testChange tests Change, Seats and Need, and returns 1 if some pieces must be changed, but not all.
func testChange(t *testing.T, p plainBook) int {
	t.Helper()
	b, change := p.BenchBook, p.change(nobody)
	if l, e := bench.Change(b); !slices.Equal(l, change) || e != api.OK {
		t.Fatalf("Change %+v: %v, not %v, %d", b, l, change, e)
	}
	want := slices.MinFunc(p.all(rest(b, change), nobody), compareSeats)
	if l, e := bench.Seats(b); !slices.Equal(l, want) || e != api.OK {
		t.Fatalf("Seats %+v: %v, not %v, %d", b, l, want, e)
	}
	var need []int
	for boy := range b.Voice.Boys {
		if len(p.change(boy)) > len(change) {
			need = append(need, boy)
		}
	}
	if l, e := bench.Need(b); !slices.Equal(l, need) || e != api.OK {
		t.Fatalf("Need %+v: %v, not %v, %d", b, l, need, e)
	}
	if len(change) > 0 && len(change) < len(b.Pieces) {
		return 1
	}
	return 0
}

// testMay asks for right seats, and for such with a change.
func testMay(t *testing.T, p plainBook, r *rand.Rand) {
	t.Helper()
	b := p.BenchBook
	for _, pieces := range choices(b) {
		all := p.all(pieces, nobody)
		var l []api.BenchSeat
		if len(all) > 0 {
			l = slices.Clone(all[r.Intn(len(all))])
		}
		for range 4 {
			is, e := bench.May(b, pieces, l)
			if want := slices.ContainsFunc(all, func(right []api.BenchSeat) bool { return slices.Equal(right, l) }); is != want || e != api.OK {
				t.Fatalf("May %+v, %v, %v: %v, %d", b, pieces, l, is, e)
			}
			l = spoilt(l, r)
		}
	}
}

func spoilt(l []api.BenchSeat, r *rand.Rand) []api.BenchSeat {
	l = append(slices.Clone(l), api.BenchSeat{Piece: r.Intn(3), Part: r.Intn(3), Boy: r.Intn(4)})
	i, j := r.Intn(len(l)), r.Intn(len(l))
	switch r.Intn(4) {
	case 0:
		l[i] = l[len(l)-1]
	case 1:
		l[i].Boy = r.Intn(6) - 1
	case 2:
		l[i], l[j] = l[j], l[i]
	case 3:
		return l
	}
	return l[:len(l)-1]
}

// P7.9
func TestEachPieceHasItsVoices(t *testing.T) {
	r := rand.New(rand.NewSource(2))
	for range 3000 {
		b, truth := anyBook(r)
		change, e := bench.Change(b)
		if e != api.OK {
			t.Fatalf("Change %+v: %d", b, e)
		}
		l, e := bench.Seats(b)
		if e != api.OK {
			t.Fatalf("Seats %+v: %d", b, e)
		}
		sung := map[[2]int]int{}
		for _, s := range l {
			piece := b.Pieces[s.Piece]
			if !truly(b.Voice.Boys[s.Boy], truth[s.Boy], piece.Week, piece.Parts[s.Part].Notes) {
				t.Fatalf("Seats %+v: %v cannot sing it", b, s)
			}
			sung[[2]int{s.Piece, s.Part}]++
		}
		for _, i := range rest(b, change) {
			for j, part := range b.Pieces[i].Parts {
				if sung[[2]int{i, j}] != part.Many {
					t.Fatalf("Seats %+v: %v", b, l)
				}
			}
		}
	}
}

// only is a book with some of its pieces.
func only(b api.BenchBook, pieces []int) api.BenchBook {
	all := b.Pieces
	b.Pieces = nil
	for _, i := range pieces {
		b.Pieces = append(b.Pieces, all[i])
	}
	return b
}

// P7.10
func TestTheFewestPiecesAreChanged(t *testing.T) {
	r := rand.New(rand.NewSource(3))
	for range 3000 {
		b, _ := anyBook(r)
		change, e := bench.Change(b)
		if e != api.OK {
			t.Fatalf("Change %+v: %d", b, e)
		}
		for _, l := range choices(b) {
			can := true
			if len(l) < len(b.Pieces) {
				_, e := bench.Fill(only(b, rest(b, l)))
				can = e == api.OK
			}
			is := slices.Equal(l, change)
			if is != can {
				t.Fatalf("Change %+v: %v, but without %v: %v", b, change, l, can)
			}
			if is {
				break
			}
		}
	}
}

// P7.11
func TestSeatsWaysAndChanges(t *testing.T) {
	r := rand.New(rand.NewSource(4))
	for range 3000 {
		b, _ := anyBook(r)
		_, e := bench.Fill(b)
		n, _ := bench.Ways(b)
		l, _ := bench.Change(b)
		if (e == api.OK) != (n > 0) || (n > 0) != (len(l) == 0) {
			t.Fatalf("%+v: Fill %d, Ways %d, Change %v", b, e, n, l)
		}
		for piece := range b.Pieces {
			if _, e := bench.Lack(b, piece); e == api.OK && !slices.Contains(l, piece) {
				t.Fatalf("%+v: %d is lacking, but %v are changed", b, piece, l)
			}
		}
	}
}

// P7.12
func TestWhatIsEasier(t *testing.T) {
	r := rand.New(rand.NewSource(5))
	for n := range 3000 {
		b, _ := anyBook(r)
		ways, _ := bench.Ways(b)
		change, _ := bench.Change(b)
		easier := deep(b)
		piece := r.Intn(len(b.Pieces))
		part := &easier.Pieces[piece].Parts[r.Intn(len(b.Pieces[piece].Parts))]
		switch notes := part.Notes; n % 4 {
		case 0:
			part.Notes.Low = min(notes.High, notes.Low+1+r.Intn(4))
		case 1:
			part.Notes.High = max(notes.Low, notes.High-1-r.Intn(4))
		case 2:
			easier.Most = min(api.BenchMost, b.Most+1)
		case 3:
			part.Many = max(1, part.Many-1)
		}
		if now, e := bench.Ways(easier); n%4 < 3 && now < ways || e != api.OK {
			t.Fatalf("Ways %+v: %d, %d, was %d", easier, now, e, ways)
		}
		if now, e := bench.Change(easier); len(now) > len(change) || e != api.OK {
			t.Fatalf("Change %+v: %v, %d, was %v", easier, now, e, change)
		}
	}
}

// P7.13
func TestOneTrialMore(t *testing.T) {
	r := rand.New(rand.NewSource(6))
	for range 3000 {
		b, truth := anyBook(r)
		b.Voice.Trials = b.Voice.Trials[:min(len(b.Voice.Trials), api.VoiceTrials-1)]
		more := deep(b)
		more.Voice.Trials = append(more.Voice.Trials, anyTrial(r, b.Voice, truth))
		for i, piece := range b.Pieces {
			for j := range piece.Parts {
				was, _ := bench.Can(b, i, j)
				now, e := bench.Can(more, i, j)
				if e != api.OK || slices.ContainsFunc(was, func(boy int) bool { return !slices.Contains(now, boy) }) {
					t.Fatalf("Can %+v, %d, %d: %v, %d, was %v", more, i, j, now, e, was)
				}
			}
		}
	}
}

// P7.14
func TestWhoIsNeededHasASeat(t *testing.T) {
	r := rand.New(rand.NewSource(7))
	for range 3000 {
		b, _ := anyBook(r)
		need, e := bench.Need(b)
		l, f := bench.Seats(b)
		if e != api.OK || f != api.OK {
			t.Fatalf("%+v: %d, %d", b, e, f)
		}
		for _, boy := range need {
			if !slices.ContainsFunc(l, func(s api.BenchSeat) bool { return s.Boy == boy }) {
				t.Fatalf("%+v: %v are needed, but the seats are %v", b, need, l)
			}
		}
	}
}

// P7.1: where trials cannot all be right, that is the error of all that is asked.
func TestFalseBooks(t *testing.T) {
	r := rand.New(rand.NewSource(8))
	found := 0
	for range 2000 {
		b, _ := anyBook(r)
		for i := range b.Voice.Trials {
			b.Voice.Trials[i].Sang = r.Intn(2)
		}
		if is, _ := voice.Right(b.Voice); is {
			continue
		}
		found++
		_, c := bench.Can(b, 0, 0)
		_, d := bench.Lack(b, 0)
		_, e := bench.May(b, nil, nil)
		_, f := bench.Ways(b)
		_, g := bench.Fill(b)
		_, h := bench.Change(b)
		_, i := bench.Seats(b)
		_, j := bench.Need(b)
		for k, e := range []api.Errno{c, d, e, f, g, h, i, j} {
			if e != api.ErrBenchFalse {
				t.Fatalf("call %d, %+v: %d", k, b, e)
			}
		}
	}
	if found < 300 {
		t.Errorf("too few false books: %d", found)
	}
}

// P7.1: the greatest book is calculated with, too, and one for which many seats are tried in vain.
func TestTheGreatestBook(t *testing.T) {
	all := part(0, 40, 1)
	b := api.BenchBook{Most: 3, Voice: api.VoiceBook{Weeks: api.VoiceWeeks}}
	for boy := range api.VoiceBoys {
		b.Voice.Boys = append(b.Voice.Boys, api.VoiceBoy{Low: span(0, 2), High: span(38, 40), Gain: span(1, 2), Turn: span(4, 6), Break: span(6, 9)})
		b.Voice.Trials = append(b.Voice.Trials, trial(boy, 5, 0, 1))
	}
	b.Pieces = slices.Repeat([]api.BenchPiece{piece(5, all, all, all)}, api.BenchPieces)
	if n, e := bench.Ways(b); n != 24*24*24 || e != api.OK {
		t.Errorf("Ways: %d, %d", n, e)
	}
	b.Pieces[2] = piece(5, all, all, part(0, 40, 3))
	if l, e := bench.Change(b); !slices.Equal(l, []int{2}) || e != api.OK {
		t.Errorf("Change: %v, %d", l, e)
	}
	if l, e := bench.Need(b); len(l) > 0 || e != api.OK {
		t.Errorf("Need: %v, %d", l, e)
	}
}

// P1: any arguments, also such as are not valid, are answered without a panic, and the same way twice (P2).
func TestAnyArguments(t *testing.T) {
	r := rand.New(rand.NewSource(9))
	odd := func() int {
		return []int{-1 << 63, -2, -1, 0, 1, 2, 3, 4, 5, 6, 9, 40, 41, 1<<63 - 1}[r.Intn(14)]
	}
	for range 3000 {
		b, _ := anyBook(r)
		for range r.Intn(3) {
			switch r.Intn(8) {
			case 0:
				b.Most = odd()
			case 1:
				b.Pieces = append(b.Pieces, piece(odd(), part(odd(), odd(), odd())))
			case 2:
				b.Pieces = b.Pieces[:r.Intn(len(b.Pieces)+1)]
			case 3:
				b.Voice.Weeks = odd()
			case 4:
				b.Voice.Boys = b.Voice.Boys[:r.Intn(len(b.Voice.Boys)+1)]
			case 5:
				b.Voice.Trials = append(b.Voice.Trials, trial(odd(), odd(), odd(), odd()))
			case 6:
				b.Pieces = append(b.Pieces, piece(odd()))
			case 7:
				b.Voice.Boys = append(b.Voice.Boys, api.VoiceBoy{Low: span(odd(), odd()), High: span(odd(), odd()), Break: span(odd(), odd())})
			}
		}
		n, m := odd(), odd()
		var chosen []int
		for range r.Intn(4) {
			chosen = append(chosen, odd())
		}
		l := seats(odd(), odd(), odd(), odd(), odd(), odd(), odd(), odd(), odd())[:r.Intn(4)]
		if !reflect.DeepEqual(everything(b, n, m, chosen, l), everything(b, n, m, chosen, l)) {
			t.Fatalf("%+v: not the same twice", b)
		}
	}
}

func everything(b api.BenchBook, n, m int, chosen []int, s []api.BenchSeat) []any {
	results := []any{bench.Check(b)}
	add := func(l ...any) { results = append(results, l...) }
	l, e := bench.Can(b, n, m)
	add(l, e)
	lack, e := bench.Lack(b, n)
	add(lack, e)
	is, e := bench.May(b, chosen, s)
	add(is, e)
	ways, e := bench.Ways(b)
	add(ways, e)
	fill, e := bench.Fill(b)
	add(fill, e)
	l, e = bench.Change(b)
	add(l, e)
	kept, e := bench.Seats(b)
	add(kept, e)
	l, e = bench.Need(b)
	add(l, e)
	return results
}
