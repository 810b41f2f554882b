package organ_test

// The functions against a second calculation, in which all truths are gone through, pipe by pipe, and the properties P8.8 to P8.13, for many books.

import (
	"cmp"
	"math/rand"
	"reflect"
	"slices"
	"testing"

	"decani/api"
	"decani/organ"
	"decani/voice"
)

// real is what is truly so of one boy: the lowest and the highest note, the gain, the turn, and the week in which the voice breaks.
type real [5]int

// top lets the highest note rise and fall, week by week.
func top(boy api.VoiceBoy, r real, week int) int {
	note := r[1]
	for w := range week {
		if w < r[3] {
			note += r[2]
		} else {
			note -= boy.Loss
		}
	}
	return note
}

func plainSings(boy api.VoiceBoy, r real, week, note int) bool {
	return week < r[4] && r[0] <= note && note <= top(boy, r, week)
}

func plainRight(v api.VoiceBook, boy int, r real) bool {
	for _, t := range v.Trials {
		if t.Boy == boy && plainSings(v.Boys[boy], r, t.Week, t.Note) != (t.Sang == 1) {
			return false
		}
	}
	return true
}

// plainReals are all that may be so of a boy. It counts up, number by number.
func plainReals(v api.VoiceBook, boy int) []real {
	known := [...]api.Span{v.Boys[boy].Low, v.Boys[boy].High, v.Boys[boy].Gain, v.Boys[boy].Turn, v.Boys[boy].Break}
	var r real
	for i, s := range known {
		r[i] = s.Low
	}
	var reals []real
	for {
		if plainRight(v, boy, r) {
			reals = append(reals, r)
		}
		i := 0
		for i < len(r) && r[i] == known[i].High {
			r[i] = known[i].Low
			i++
		}
		if i == len(r) {
			return reals
		}
		r[i]++
	}
}

// tuned is how high each pipe is, and, behind them, the town's.
type tuned [6]int

// town is the number of the town's pitch.
const town = 5

// isFine reports whether a pipe is right with the forks, and with the pipes that were tuned already.
func isFine(b api.OrganBook, h tuned, pipe int, done []int) bool {
	for _, f := range b.Forks {
		if f.Pipe == pipe && (h[pipe] > f.Read+f.Error || h[pipe] < f.Read-f.Error) {
			return false
		}
	}
	for _, t := range b.Tunes {
		if t.From == pipe && slices.Contains(done, t.To) || t.To == pipe && slices.Contains(done, t.From) {
			if off := h[t.To] - h[t.From]; off > t.Off+t.Error || off < t.Off-t.Error {
				return false
			}
		}
	}
	return true
}

// islands are the pipes that were tuned one from the other, by way of others, too: each of them behind one that it was tuned with.
func islands(b api.OrganBook) [][]int {
	var islands [][]int
	seen := map[int]bool{}
	for first := range b.Pipes {
		if seen[first] {
			continue
		}
		seen[first] = true
		island := []int{first}
		for i := 0; i < len(island); i++ {
			for _, t := range b.Tunes {
				for _, two := range [][2]int{{t.From, t.To}, {t.To, t.From}} {
					if two[0] == island[i] && !seen[two[1]] {
						seen[two[1]] = true
						island = append(island, two[1])
					}
				}
			}
		}
		islands = append(islands, island)
	}
	return islands
}

// tries are the heights that a pipe can have beside those that were tuned already.
func tries(b api.OrganBook, h tuned, pipe int, done []int) (low, high int) {
	for _, t := range b.Tunes {
		if t.To == pipe && slices.Contains(done, t.From) {
			return max(-60, h[t.From]+t.Off-t.Error), min(60, h[t.From]+t.Off+t.Error)
		}
		if t.From == pipe && slices.Contains(done, t.To) {
			return max(-60, h[t.To]-t.Off-t.Error), min(60, h[t.To]-t.Off+t.Error)
		}
	}
	return -60, 60
}

// each calls what is done with each truth of an island, until it returns false.
func each(b api.OrganBook, island []int, does func(h tuned) bool) {
	var h tuned
	var next func(n int) bool
	next = func(n int) bool {
		if n == len(island) {
			return does(h)
		}
		pipe := island[n]
		low, high := tries(b, h, pipe, island[:n])
		for height := low; height <= high; height++ {
			h[pipe] = height
			if isFine(b, h, pipe, island[:n]) && !next(n+1) {
				return false
			}
		}
		return true
	}
	next(0)
}

// plainTrue reports whether all tunings and forks can be right.
func plainTrue(b api.OrganBook) bool {
	for _, island := range islands(b) {
		found := false
		each(b, island, func(tuned) bool { found = true; return false })
		if !found {
			return false
		}
	}
	return true
}

// plainApart is how far all pipes, and the town's pitch, are apart in all truths. Pipes of different islands are so high as they can be each alone.
func plainApart(b api.OrganBook) [6][6]api.Span {
	var apart [6][6]api.Span
	all := islands(b)
	for _, island := range all {
		found := false
		ends := append(slices.Clone(island), town)
		each(b, island, func(h tuned) bool {
			for _, i := range ends {
				for _, j := range ends {
					off, s := h[j]-h[i], &apart[i][j]
					if !found || off < s.Low {
						s.Low = off
					}
					if !found || off > s.High {
						s.High = off
					}
				}
			}
			found = true
			return true
		})
	}
	for i, one := range all {
		for j, other := range all {
			if i == j {
				continue
			}
			for _, p := range one {
				for _, q := range other {
					apart[p][q] = span(apart[town][q].Low-apart[town][p].High, apart[town][q].High-apart[town][p].Low)
				}
			}
		}
	}
	return apart
}

// plainSharp counts semitones until they are enough.
func plainSharp(b api.OrganBook, apart [6][6]api.Span) api.Span {
	s := span(100, -100)
	for pipe := range b.Pipes {
		for s.Low*10 > apart[town][pipe].Low {
			s.Low--
		}
		for s.High*10 < apart[town][pipe].High {
			s.High++
		}
	}
	return s
}

// plainKeys asks each truth of each boy for each note, in each key.
func plainKeys(b api.OrganBook, sharp api.Span, week int, parts []api.OrganPart) []int {
	var keys []int
	for key := -6; key <= 6; key++ {
		can := true
		for _, p := range parts {
			for _, r := range plainReals(b.Voice, p.Boy) {
				for note := p.Notes.Low + key + sharp.Low; note <= p.Notes.High+key+sharp.High; note++ {
					can = can && note >= 0 && note <= 40 && plainSings(b.Voice.Boys[p.Boy], r, week, note)
				}
			}
		}
		if can {
			keys = append(keys, key)
		}
	}
	return keys
}

// lists are all lists of numbers below n, the shortest ones first, then the first ones.
func lists(n int) [][]int {
	var all [][]int
	for set := range 1 << n {
		var l []int
		for i := range n {
			if set>>i&1 == 1 {
				l = append(l, i)
			}
		}
		all = append(all, l)
	}
	slices.SortFunc(all, func(one, other []int) int {
		return cmp.Or(len(one)-len(other), slices.Compare(one, other))
	})
	return all
}

// without is a book without some tunings.
func without(b api.OrganBook, out []int) api.OrganBook {
	all := b.Tunes
	b.Tunes = nil
	for i, t := range all {
		if !slices.Contains(out, i) {
			b.Tunes = append(b.Tunes, t)
		}
	}
	return b
}

func anySpan(r *rand.Rand, least, most, apart int) api.Span {
	low := least + r.Intn(most-least+1)
	return span(low, min(most, low+r.Intn(apart+1)))
}

func anyBoy(r *rand.Rand) api.VoiceBoy {
	return api.VoiceBoy{
		Low: anySpan(r, 0, 8, api.VoiceWide), High: anySpan(r, 20, 36, api.VoiceWide),
		Gain: anySpan(r, 0, 2, api.VoiceLean), Turn: anySpan(r, 0, 6, api.VoiceWide), Loss: r.Intn(3),
		Break: anySpan(r, 1, api.VoiceBreak, api.VoiceLate),
	}
}

// anyTrial is right in what is truly so.
func anyTrial(r *rand.Rand, v api.VoiceBook, truth []real) api.VoiceTrial {
	t := trial(r.Intn(len(v.Boys)), r.Intn(v.Weeks), r.Intn(40), 0)
	if plainSings(v.Boys[t.Boy], truth[t.Boy], t.Week, t.Note) {
		t.Sang = 1
	}
	return t
}

func anyVoice(r *rand.Rand) api.VoiceBook {
	v := api.VoiceBook{Weeks: 1 + r.Intn(3)}
	var truth []real
	for boy := range 1 + r.Intn(3) {
		v.Boys = append(v.Boys, anyBoy(r))
		reals := plainReals(v, boy)
		truth = append(truth, reals[r.Intn(len(reals))])
	}
	for range r.Intn(4) {
		v.Trials = append(v.Trials, anyTrial(r, v, truth))
	}
	return v
}

// anyError is small for the most part, so that there are not too many truths.
func anyError(r *rand.Rand) int { return r.Intn(3) + r.Intn(2)*r.Intn(4) }

// anyTune is right in what is truly so, if it is not too far.
func anyTune(r *rand.Rand, b api.OrganBook, h tuned) api.OrganTune {
	from := r.Intn(b.Pipes)
	to := (from + 1 + r.Intn(b.Pipes-1)) % b.Pipes
	e := anyError(r)
	return tune(from, to, h[to]-h[from]+r.Intn(2*e+1)-e, e)
}

func anyFork(r *rand.Rand, b api.OrganBook, h tuned) api.OrganFork {
	pipe, e := r.Intn(b.Pipes), anyError(r)
	return fork(pipe, min(60, max(-60, h[pipe]+r.Intn(2*e+1)-e)), e)
}

// anyBook is a book, and what is truly so: all of it is right.
func anyBook(r *rand.Rand) (api.OrganBook, tuned) {
	b := api.OrganBook{Pipes: 1 + r.Intn(api.OrganPipes), Voice: anyVoice(r)}
	var h tuned
	middle := r.Intn(121-24) - 60 + 12
	for pipe := range b.Pipes {
		h[pipe] = middle + r.Intn(25) - 12
	}
	for range r.Intn(api.OrganTunes + 1) {
		if b.Pipes > 1 {
			b.Tunes = append(b.Tunes, anyTune(r, b, h))
		}
	}
	for range r.Intn(api.OrganForks + 1) {
		b.Forks = append(b.Forks, anyFork(r, b, h))
	}
	return b, h
}

// spoilt is a book some of whose tunings, and seldom forks, say something else.
func spoilt(r *rand.Rand, b api.OrganBook) api.OrganBook {
	b = deep(b)
	for i := range b.Tunes {
		if r.Intn(2) == 0 {
			b.Tunes[i].Off = min(30, max(-30, b.Tunes[i].Off+r.Intn(13)-6))
		}
	}
	for i := range b.Forks {
		if r.Intn(8) == 0 {
			b.Forks[i].Read = min(60, max(-60, b.Forks[i].Read+r.Intn(13)-6))
		}
	}
	return b
}

func anyParts(r *rand.Rand, b api.OrganBook) []api.OrganPart {
	var parts []api.OrganPart
	for range 1 + r.Intn(api.OrganParts) {
		low := 5 + r.Intn(16)
		parts = append(parts, part(r.Intn(len(b.Voice.Boys)), low, low+r.Intn(10)))
	}
	return parts
}

func deep(b api.OrganBook) api.OrganBook {
	b.Tunes, b.Forks = slices.Clone(b.Tunes), slices.Clone(b.Forks)
	b.Voice.Boys, b.Voice.Trials = slices.Clone(b.Voice.Boys), slices.Clone(b.Voice.Trials)
	return b
}

func TestAgainstPlainTruths(t *testing.T) {
	r := rand.New(rand.NewSource(1))
	right, keyed := 0, 0
	for n := range 2000 {
		b, _ := anyBook(r)
		if n%2 == 0 {
			b = spoilt(r, b)
		}
		was, want := deep(b), plainTrue(b)
		if is, e := organ.Right(b); is != want || e != api.OK {
			t.Fatalf("Right %+v: %v, %d", b, is, e)
		}
		testWrong(t, b)
		if want {
			right++
			apart := plainApart(b)
			testApart(t, b, apart)
			testFits(t, b, r)
			keyed += testKeys(t, b, plainSharp(b, apart), r)
		}
		if !reflect.DeepEqual(b, was) {
			t.Fatalf("changed: %+v, was %+v", b, was)
		}
	}
	if right < 1000 || right > 1800 || keyed < 200 {
		t.Errorf("too few books of a kind: %d can be true, %d have some keys, not all", right, keyed)
	}
}

func testApart(t *testing.T, b api.OrganBook, apart [6][6]api.Span) {
	t.Helper()
	for i := range b.Pipes {
		if s, e := organ.Pitch(b, i); s != apart[town][i] || e != api.OK {
			t.Fatalf("Pitch %+v, %d: %v, not %v, %d", b, i, s, apart[town][i], e)
		}
		for j := range b.Pipes {
			if s, e := organ.Apart(b, i, j); s != apart[i][j] || e != api.OK {
				t.Fatalf("Apart %+v, %d, %d: %v, not %v, %d", b, i, j, s, apart[i][j], e)
			}
		}
	}
	if s, e := organ.Sharp(b); s != plainSharp(b, apart) || e != api.OK {
		t.Fatalf("Sharp %+v: %v, not %v, %d", b, s, plainSharp(b, apart), e)
	}
}

func testFits(t *testing.T, b api.OrganBook, r *rand.Rand) {
	t.Helper()
	if b.Pipes == 1 {
		return
	}
	for range 4 {
		from := r.Intn(b.Pipes)
		x := tune(from, (from+1+r.Intn(b.Pipes-1))%b.Pipes, r.Intn(61)-30, anyError(r))
		with := deep(b)
		with.Tunes = append(with.Tunes, x)
		if is, e := organ.Fits(b, x); is != plainTrue(with) || e != api.OK {
			t.Fatalf("Fits %+v, %v: %v, %d", b, x, is, e)
		}
	}
}

func testWrong(t *testing.T, b api.OrganBook) {
	t.Helper()
	l, e := organ.Wrong(b)
	for _, out := range lists(len(b.Tunes)) {
		if plainTrue(without(b, out)) {
			if !slices.Equal(l, out) || e != api.OK {
				t.Fatalf("Wrong %+v: %v, not %v, %d", b, l, out, e)
			}
			return
		}
	}
	if len(l) > 0 || e != api.ErrOrganFalse {
		t.Fatalf("Wrong %+v: %v, %d", b, l, e)
	}
}

// testKeys tests Keys and Best, and returns 1 if a piece can be sung in some keys, but not in all.
func testKeys(t *testing.T, b api.OrganBook, sharp api.Span, r *rand.Rand) int {
	t.Helper()
	some := 0
	for week := range b.Voice.Weeks {
		parts := anyParts(r, b)
		want := plainKeys(b, sharp, week, parts)
		if l, e := organ.Keys(b, week, parts); !slices.Equal(l, want) || e != api.OK {
			t.Fatalf("Keys %+v, %d, %v: %v, not %v, %d", b, week, parts, l, want, e)
		}
		best, wantE := 0, api.ErrNone
		for _, key := range []int{6, -6, 5, -5, 4, -4, 3, -3, 2, -2, 1, -1, 0} {
			if slices.Contains(want, key) {
				best, wantE = key, api.OK
			}
		}
		if n, e := organ.Best(b, week, parts); n != best || e != wantE {
			t.Fatalf("Best %+v, %d, %v: %d, %d of %v", b, week, parts, n, e, want)
		}
		if len(want) > 0 && len(want) < 13 {
			some = 1
		}
	}
	return some
}

// P8.8
func TestHowHighTheOrganIs(t *testing.T) {
	r := rand.New(rand.NewSource(2))
	for range 3000 {
		b, h := anyBook(r)
		if is, e := organ.Right(b); !is || e != api.OK {
			t.Fatalf("Right %+v: %v, %d", b, is, e)
		}
		if l, e := organ.Wrong(b); len(l) > 0 || e != api.OK {
			t.Fatalf("Wrong %+v: %v, %d", b, l, e)
		}
		sharp, e := organ.Sharp(b)
		if e != api.OK {
			t.Fatalf("Sharp %+v: %d", b, e)
		}
		for i := range b.Pipes {
			if s, e := organ.Pitch(b, i); e != api.OK || h[i] < s.Low || h[i] > s.High || h[i] < 10*sharp.Low || h[i] > 10*sharp.High {
				t.Fatalf("Pitch %+v, %d: %v, %d, %v, but it is %d", b, i, s, e, sharp, h[i])
			}
			for j := range b.Pipes {
				if s, e := organ.Apart(b, i, j); e != api.OK || h[j]-h[i] < s.Low || h[j]-h[i] > s.High {
					t.Fatalf("Apart %+v, %d, %d: %v, %d, but it is %d", b, i, j, s, e, h[j]-h[i])
				}
			}
		}
	}
}

// P8.9
func TestKeysLieWithinAllVoices(t *testing.T) {
	r := rand.New(rand.NewSource(3))
	for range 300 {
		b, _ := anyBook(r)
		week, parts := r.Intn(b.Voice.Weeks), anyParts(r, b)
		sharp, _ := organ.Sharp(b)
		keys, e := organ.Keys(b, week, parts)
		if e != api.OK {
			t.Fatalf("Keys %+v, %d, %v: %d", b, week, parts, e)
		}
		for key := -6; key <= 6; key++ {
			can := true
			for _, p := range parts {
				for more := sharp.Low; more <= sharp.High; more++ {
					for note := p.Notes.Low; note <= p.Notes.High; note++ {
						sings, _ := voice.Sings(b.Voice, p.Boy, week, note+key+more)
						can = can && sings == 2
					}
				}
			}
			if can != slices.Contains(keys, key) {
				t.Fatalf("Keys %+v, %d, %v: %v, but in %d: %v", b, week, parts, keys, key, can)
			}
		}
	}
}

// P8.10
func TestBothEndsCanBeSo(t *testing.T) {
	r := rand.New(rand.NewSource(4))
	for range 700 {
		b, _ := anyBook(r)
		b.Forks = b.Forks[:min(len(b.Forks), api.OrganForks-1)]
		for i := range b.Pipes {
			s, _ := organ.Pitch(b, i)
			for height, can := range map[int]bool{s.Low - 1: false, s.Low: true, s.High: true, s.High + 1: false} {
				with := deep(b)
				with.Forks = append(with.Forks, fork(i, height, 0))
				if is, e := organ.Right(with); height >= -60 && height <= 60 && (is != can || e != api.OK) {
					t.Fatalf("Right %+v: %v, %d", with, is, e)
				}
			}
			for j := range b.Pipes {
				s, _ := organ.Apart(b, i, j)
				for off, can := range map[int]bool{s.Low - 1: false, s.Low: true, s.High: true, s.High + 1: false} {
					if is, e := organ.Fits(b, tune(i, j, off, 0)); i != j && off >= -30 && off <= 30 && (is != can || e != api.OK) {
						t.Fatalf("Fits %+v, %d, %d: %d: %v, %d", b, i, j, off, is, e)
					}
				}
				if back, _ := organ.Apart(b, j, i); back != span(-s.High, -s.Low) {
					t.Fatalf("Apart %+v: %d, %d: %v, but back %v", b, i, j, s, back)
				}
				third := r.Intn(b.Pipes)
				one, _ := organ.Apart(b, i, third)
				other, _ := organ.Apart(b, third, j)
				if s.High > one.High+other.High || s.Low < one.Low+other.Low {
					t.Fatalf("Apart %+v: %d, %d: %v, but by %d: %v, %v", b, i, j, s, third, one, other)
				}
			}
		}
	}
}

// within reports whether a span is no wider than it was.
func within(now, was api.Span) bool { return now.Low >= was.Low && now.High <= was.High }

func lacksNone(now, was []int) bool {
	return !slices.ContainsFunc(was, func(key int) bool { return !slices.Contains(now, key) })
}

// P8.11
func TestOneTuningMore(t *testing.T) {
	r := rand.New(rand.NewSource(5))
	for range 2000 {
		b, h := anyBook(r)
		if b.Pipes == 1 {
			continue
		}
		b.Tunes = b.Tunes[:min(len(b.Tunes), api.OrganTunes-1)]
		with := deep(b)
		with.Tunes = append(with.Tunes, anyTune(r, b, h))
		for i := range b.Pipes {
			was, _ := organ.Pitch(b, i)
			if now, e := organ.Pitch(with, i); !within(now, was) || e != api.OK {
				t.Fatalf("Pitch %+v, %d: %v, %d, was %v", with, i, now, e, was)
			}
			j := r.Intn(b.Pipes)
			was, _ = organ.Apart(b, i, j)
			if now, e := organ.Apart(with, i, j); !within(now, was) || e != api.OK {
				t.Fatalf("Apart %+v, %d, %d: %v, %d, was %v", with, i, j, now, e, was)
			}
		}
		was, _ := organ.Sharp(b)
		if now, e := organ.Sharp(with); !within(now, was) || e != api.OK {
			t.Fatalf("Sharp %+v: %v, %d, was %v", with, now, e, was)
		}
		week, parts := r.Intn(b.Voice.Weeks), anyParts(r, b)
		keys, _ := organ.Keys(b, week, parts)
		if now, e := organ.Keys(with, week, parts); !lacksNone(now, keys) || e != api.OK {
			t.Fatalf("Keys %+v, %d, %v: %v, %d, was %v", with, week, parts, now, e, keys)
		}
	}
}

// P8.12
func TestTheTuningsThatMustBeFalse(t *testing.T) {
	r := rand.New(rand.NewSource(6))
	found := 0
	for range 2000 {
		b, _ := anyBook(r)
		b = spoilt(r, b)
		l, e := organ.Wrong(b)
		if e != api.OK {
			continue
		}
		if len(l) > 1 {
			found++
		}
		for _, out := range lists(len(b.Tunes)) {
			is, _ := organ.Right(without(b, out))
			if is != slices.Equal(out, l) {
				t.Fatalf("Wrong %+v: %v, but without %v: %v", b, l, out, is)
			}
			if is {
				break
			}
		}
	}
	if found < 150 {
		t.Errorf("too few books of which two tunings or more are false: %d", found)
	}
}

// P8.13
func TestWhatIsEasier(t *testing.T) {
	r := rand.New(rand.NewSource(7))
	for n := range 2000 {
		b, _ := anyBook(r)
		week, parts := r.Intn(b.Voice.Weeks), anyParts(r, b)
		was, _ := organ.Keys(b, week, parts)
		easier := slices.Clone(parts)
		i := r.Intn(len(parts))
		switch notes := &easier[i].Notes; {
		case n%3 == 0 && len(parts) > 1:
			easier = slices.Delete(easier, i, i+1)
		case n%3 == 1:
			notes.Low = min(notes.High, notes.Low+1+r.Intn(3))
		default:
			notes.High = max(notes.Low, notes.High-1-r.Intn(3))
		}
		if now, e := organ.Keys(b, week, easier); !lacksNone(now, was) || e != api.OK {
			t.Fatalf("Keys %+v, %d, %v: %v, %d, was %v", b, week, easier, now, e, was)
		}
	}
}

// P8.13
func TestForksThatReadMore(t *testing.T) {
	r := rand.New(rand.NewSource(8))
	found := 0
books:
	for range 3000 {
		b, _ := anyBook(r)
		more := r.Intn(41) - 20
		higher := deep(b)
		for i := range higher.Forks {
			higher.Forks[i].Read += more
			if read := higher.Forks[i].Read; read < -60 || read > 60 {
				continue books
			}
		}
		var was []api.Span
		for i := range b.Pipes {
			s, _ := organ.Pitch(b, i)
			if s.Low <= -60 || s.High >= 60 || s.Low+more < -60 || s.High+more > 60 {
				continue books
			}
			was = append(was, s)
		}
		found++
		for i := range b.Pipes {
			if s, e := organ.Pitch(higher, i); s != span(was[i].Low+more, was[i].High+more) || e != api.OK {
				t.Fatalf("Pitch %+v, %d: %v, %d, was %v, and %d less", higher, i, s, e, was[i], more)
			}
			j := r.Intn(b.Pipes)
			one, _ := organ.Apart(b, i, j)
			if s, e := organ.Apart(higher, i, j); s != one || e != api.OK {
				t.Fatalf("Apart %+v, %d, %d: %v, %d, was %v", higher, i, j, s, e, one)
			}
		}
	}
	if found < 300 {
		t.Errorf("too few books with forks for all pipes: %d", found)
	}
}

// P8.1, P8.6: where not all can be right, that is the error of all that is asked.
func TestFalseBooks(t *testing.T) {
	r := rand.New(rand.NewSource(9))
	found := map[bool]int{}
	for range 2000 {
		b, _ := anyBook(r)
		b = spoilt(r, b)
		for i := range b.Voice.Trials {
			b.Voice.Trials[i].Sang = r.Intn(2)
		}
		is, e := organ.Right(b)
		sung, _ := voice.Right(b.Voice)
		if is != (sung && plainTrue(b)) || e != api.OK {
			t.Fatalf("Right %+v: %v, %d", b, is, e)
		}
		if is {
			continue
		}
		found[sung]++
		parts := anyParts(r, b)
		_, c := organ.Pitch(b, 0)
		_, d := organ.Apart(b, 0, 0)
		_, e = organ.Sharp(b)
		_, f := organ.Keys(b, 0, parts)
		_, g := organ.Best(b, 0, parts)
		errors := []api.Errno{c, d, e, f, g}
		if b.Pipes > 1 {
			_, h := organ.Fits(b, tune(0, 1, 0, 5))
			errors = append(errors, h)
		}
		if !sung {
			_, i := organ.Wrong(b)
			errors = append(errors, i)
		}
		for k, e := range errors {
			if e != api.ErrOrganFalse {
				t.Fatalf("call %d, %+v: %d", k, b, e)
			}
		}
	}
	if found[true] < 250 || found[false] < 100 {
		t.Errorf("too few false books: %v", found)
	}
}

// P8.4, P8.6: the greatest book is calculated with, too.
func TestTheGreatestBook(t *testing.T) {
	b := api.OrganBook{Pipes: api.OrganPipes, Voice: api.VoiceBook{Weeks: api.VoiceWeeks}}
	for boy := range api.VoiceBoys {
		b.Voice.Boys = append(b.Voice.Boys, api.VoiceBoy{Low: span(0, 2), High: span(38, 40), Gain: span(1, 2), Turn: span(4, 6), Break: span(6, 9)})
		b.Voice.Trials = append(b.Voice.Trials, trial(boy, 5, 0, 1))
	}
	b.Forks = []api.OrganFork{fork(0, 0, 0), fork(0, 0, 0), fork(0, 0, 0)}
	for i := range api.OrganTunes {
		b.Tunes = append(b.Tunes, tune(i%4, i%4+1, 30, 0))
	}
	if l, e := organ.Wrong(b); !slices.Equal(l, []int{2}) || e != api.OK {
		t.Errorf("Wrong: %v, %d", l, e)
	}
	b.Tunes = nil
	for pipe := range 4 {
		b.Tunes = append(b.Tunes, tune(0, pipe+1, 0, 0))
	}
	if l, e := organ.Keys(b, 5, piece(part(0, 6, 34), part(1, 6, 34), part(2, 6, 34), part(3, 6, 34))); len(l) != 13 || e != api.OK {
		t.Errorf("Keys: %v, %d", l, e)
	}
}

// P1: any arguments, also such as are not valid, are answered without a panic, and the same way twice (P2).
func TestAnyArguments(t *testing.T) {
	r := rand.New(rand.NewSource(10))
	odd := func() int {
		return []int{-1 << 63, -61, -2, -1, 0, 1, 2, 3, 4, 5, 6, 40, 41, 60, 1<<63 - 1}[r.Intn(15)]
	}
	for range 3000 {
		b, _ := anyBook(r)
		for range r.Intn(3) {
			switch r.Intn(7) {
			case 0:
				b.Pipes = odd()
			case 1:
				b.Tunes = append(b.Tunes, tune(odd(), odd(), odd(), odd()))
			case 2:
				b.Forks = append(b.Forks, fork(odd(), odd(), odd()))
			case 3:
				b.Voice.Weeks = odd()
			case 4:
				b.Voice.Boys = b.Voice.Boys[:r.Intn(len(b.Voice.Boys)+1)]
			case 5:
				b.Voice.Trials = append(b.Voice.Trials, trial(odd(), odd(), odd(), odd()))
			case 6:
				b.Voice.Boys = append(b.Voice.Boys, api.VoiceBoy{Low: span(odd(), odd()), High: span(odd(), odd()), Break: span(odd(), odd())})
			}
		}
		n, m := odd(), odd()
		parts := piece(part(odd(), odd(), odd()), part(0, 8, 9), part(odd(), 8, 9))[:r.Intn(4)]
		x := tune(odd(), odd(), odd(), odd())
		if !reflect.DeepEqual(everything(b, n, m, parts, x), everything(b, n, m, parts, x)) {
			t.Fatalf("%+v: not the same twice", b)
		}
	}
}

func everything(b api.OrganBook, n, m int, parts []api.OrganPart, x api.OrganTune) []any {
	results := []any{organ.Check(b)}
	add := func(l ...any) { results = append(results, l...) }
	is, e := organ.Right(b)
	add(is, e)
	s, e := organ.Pitch(b, n)
	add(s, e)
	s, e = organ.Apart(b, n, m)
	add(s, e)
	s, e = organ.Sharp(b)
	add(s, e)
	l, e := organ.Keys(b, n, parts)
	add(l, e)
	best, e := organ.Best(b, n, parts)
	add(best, e)
	is, e = organ.Fits(b, x)
	add(is, e)
	l, e = organ.Wrong(b)
	add(l, e)
	return results
}
