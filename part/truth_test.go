package part_test

// The functions against a second calculation, which puts whole lines together and judges them afterwards, and the properties P5.9 to P5.14, for many books.

import (
	"math/rand"
	"reflect"
	"slices"
	"testing"

	"decani/api"
	"decani/part"
)

// score is a whole piece, voice by voice.
type score [][]int

// plainLines are all lists of so many notes of a span.
func plainLines(s api.Span, notes int) [][]int {
	if notes == 0 {
		return [][]int{nil}
	}
	var lines [][]int
	for _, rest := range plainLines(s, notes-1) {
		for n := s.Low; n <= s.High; n++ {
			lines = append(lines, append([]int{n}, rest...))
		}
	}
	return lines
}

// plainAll are all scores that the style allows.
func plainAll(b api.PartBook) []score {
	scores := []score{nil}
	for _, s := range b.Voices {
		var more []score
		for _, sc := range scores {
			for _, l := range plainLines(s, b.Notes) {
				next := append(slices.Clone(sc), l)
				if plainAllowed(b, next) {
					more = append(more, next)
				}
			}
		}
		scores = more
	}
	return scores
}

// plainAllowed judges the highest voice of a score.
func plainAllowed(b api.PartBook, sc score) bool {
	high := sc[len(sc)-1]
	for i := 1; i < len(high); i++ {
		if high[i] > high[i-1]+b.Step || high[i] < high[i-1]-b.Step {
			return false
		}
	}
	if len(sc) == 1 {
		return true
	}
	low := sc[len(sc)-2]
	for i := range high {
		if !slices.Contains(members(b.Chords), high[i]-low[i]) {
			return false
		}
		same := i > 0 && high[i]-high[i-1] == low[i]-low[i-1]
		if same && high[i] != high[i-1] && low[i] != low[i-1] && slices.Contains(members(b.Perfect), high[i]-low[i]) {
			return false
		}
	}
	return true
}

func plainRight(sc score, c api.PartCopy) bool { return slices.Equal(sc[c.Voice], c.Notes) }

// plainTruths are all scores by those copies that are not left out.
func plainTruths(b api.PartBook, all []score, out []int) []score {
	var truths []score
	for _, sc := range all {
		right := true
		for i, c := range b.Copies {
			right = right && (slices.Contains(out, i) || plainRight(sc, c))
		}
		if right {
			truths = append(truths, sc)
		}
	}
	return truths
}

// members are the numbers of a set.
func members(set int) []int {
	var l []int
	for i := 0; set>>i > 0; i++ {
		if set>>i&1 == 1 {
			l = append(l, i)
		}
	}
	return l
}

// plainWrong goes through all sets of copies.
func plainWrong(b api.PartBook, all []score) []int {
	best := []int{0, 1, 2, 3, 4}
	for set := range 1 << len(b.Copies) {
		out := members(set)
		sooner := len(out) < len(best) || len(out) == len(best) && slices.Compare(out, best) < 0
		if sooner && plainTruths(b, all, out) != nil {
			best = out
		}
	}
	return best
}

// plainNotes are all notes at a place, increasing, each as often as there are ways with it.
func plainNotes(truths []score, voice, note int) []int {
	var l []int
	for _, sc := range truths {
		l = append(l, sc[voice][note])
	}
	slices.Sort(l)
	return l
}

// plainWorst is how many ways are left at a place at the worst.
func plainWorst(truths []score, voice, note int) int {
	worst, ways := 0, map[int]int{}
	for _, n := range plainNotes(truths, voice, note) {
		ways[n]++
		worst = max(worst, ways[n])
	}
	return worst
}

// anyBook has so many voices at most, and few notes that cannot be.
func anyBook(r *rand.Rand, voices int) api.PartBook {
	b := api.PartBook{Notes: 1 + r.Intn(3), Step: r.Intn(4), Chords: r.Intn(256) | r.Intn(256), Perfect: r.Intn(256)}
	low := r.Intn(5)
	for range 1 + r.Intn(voices) {
		b.Voices = append(b.Voices, span(low, min(12, low+r.Intn(3))))
		low = max(0, min(12, low+r.Intn(5)-1))
	}
	for range max(0, r.Intn(7)-2) {
		b.Copies = append(b.Copies, anyCopy(r, b))
	}
	return b
}

// anyCopy has seldom a note that its voice cannot sing.
func anyCopy(r *rand.Rand, b api.PartBook) api.PartCopy {
	c := api.PartCopy{Voice: r.Intn(len(b.Voices))}
	s := b.Voices[c.Voice]
	for range b.Notes {
		n := s.Low + r.Intn(s.High-s.Low+1)
		if r.Intn(12) == 0 {
			n = r.Intn(13)
		}
		c.Notes = append(c.Notes, n)
	}
	return c
}

// written is a book of copies that are right, but for the first ones that may be wrong, and what was written.
func written(r *rand.Rand, wrong int) (api.PartBook, score) {
	for {
		b := anyBook(r, 3)
		all := plainAll(b)
		if len(all) == 0 {
			continue
		}
		sc := all[r.Intn(len(all))]
		for i := range b.Copies {
			if i >= wrong {
				b.Copies[i].Notes = slices.Clone(sc[b.Copies[i].Voice])
			}
		}
		return b, sc
	}
}

func deep(b api.PartBook) api.PartBook {
	b.Voices, b.Copies = slices.Clone(b.Voices), slices.Clone(b.Copies)
	for i := range b.Copies {
		b.Copies[i].Notes = slices.Clone(b.Copies[i].Notes)
	}
	return b
}

func TestAgainstPlainTruths(t *testing.T) {
	r := rand.New(rand.NewSource(1))
	for n := range 1500 {
		b := anyBook(r, 3)
		if n%3 > 0 {
			b, _ = written(r, n%3-1)
		}
		was, all := deep(b), plainAll(b)
		truths := plainTruths(b, all, nil)
		if is, e := part.Right(b); is != (truths != nil) || e != api.OK {
			t.Fatalf("Right %+v: %v, %d", b, is, e)
		}
		if n, e := part.Ways(b); n != len(truths) || e != api.OK {
			t.Fatalf("Ways %+v: %d, %d", b, n, e)
		}
		if truths == nil {
			testFalse(t, b)
		} else {
			testNotes(t, b, truths)
			testPlaces(t, b, truths)
			testFits(t, b, truths, r)
		}
		testWrong(t, b, all)
		if !reflect.DeepEqual(b, was) {
			t.Fatalf("changed: %+v, was %+v", b, was)
		}
	}
}

func testFalse(t *testing.T, b api.PartBook) {
	t.Helper()
	_, c := part.Notes(b, 0, 0)
	_, d := part.Line(b, 0)
	_, _, e := part.First(b)
	_, _, f := part.Ask(b)
	_, g := part.Fits(b, line(0, make([]int, b.Notes)...))
	for k, e := range []api.Errno{c, d, e, f, g} {
		if e != api.ErrPartFalse {
			t.Fatalf("call %d, %+v: %d", k, b, e)
		}
	}
}

func testNotes(t *testing.T, b api.PartBook, truths []score) {
	t.Helper()
	for voice := range b.Voices {
		one, wantE := []int(nil), api.OK
		for note := range b.Notes {
			want := slices.Compact(plainNotes(truths, voice, note))
			if l, e := part.Notes(b, voice, note); !slices.Equal(l, want) || e != api.OK {
				t.Fatalf("Notes %+v, %d, %d: %v, %d", b, voice, note, l, e)
			}
			one = append(one, want[0])
			if len(want) > 1 {
				wantE = api.ErrNone
			}
		}
		if wantE != api.OK {
			one = nil
		}
		if l, e := part.Line(b, voice); !slices.Equal(l, one) || e != wantE {
			t.Fatalf("Line %+v, %d: %v, %d", b, voice, l, e)
		}
	}
}

func testPlaces(t *testing.T, b api.PartBook, truths []score) {
	t.Helper()
	first, best, least := -1, -1, len(truths)+1
	for at := range len(b.Voices) * b.Notes {
		voice, note := at/b.Notes, at%b.Notes
		if len(slices.Compact(plainNotes(truths, voice, note))) == 1 {
			continue
		}
		if first < 0 {
			first = at
		}
		if worst := plainWorst(truths, voice, note); worst < least {
			best, least = at, worst
		}
	}
	wantE := api.OK
	if first < 0 {
		first, best, wantE = 0, 0, api.ErrNone
	}
	if voice, note, e := part.First(b); voice != first/b.Notes || note != first%b.Notes || e != wantE {
		t.Fatalf("First %+v: %d, %d, %d", b, voice, note, e)
	}
	if voice, note, e := part.Ask(b); voice != best/b.Notes || note != best%b.Notes || e != wantE {
		t.Fatalf("Ask %+v: %d, %d, %d", b, voice, note, e)
	}
}

func testFits(t *testing.T, b api.PartBook, truths []score, r *rand.Rand) {
	t.Helper()
	for range 20 {
		c := anyCopy(r, b)
		want := slices.ContainsFunc(truths, func(sc score) bool { return plainRight(sc, c) })
		if is, e := part.Fits(b, c); is != want || e != api.OK {
			t.Fatalf("Fits %+v, %+v: %v, %d", b, c, is, e)
		}
	}
}

func testWrong(t *testing.T, b api.PartBook, all []score) {
	t.Helper()
	if len(all) == 0 {
		if l, e := part.Wrong(b); len(l) > 0 || e != api.ErrPartFalse {
			t.Fatalf("Wrong %+v: %v, %d", b, l, e)
		}
		for i := range b.Copies {
			if n, e := part.Bar(b, i); n != 0 || e != api.ErrPartFalse {
				t.Fatalf("Bar %+v, %d: %d, %d", b, i, n, e)
			}
		}
		return
	}
	wrong := plainWrong(b, all)
	if l, e := part.Wrong(b); !slices.Equal(l, wrong) || e != api.OK {
		t.Fatalf("Wrong %+v: %v, %d", b, l, e)
	}
	truths := plainTruths(b, all, wrong)
	for i, c := range b.Copies {
		want, wantE := 0, api.ErrNone
		for note := b.Notes - 1; note >= 0; note-- {
			if !slices.Contains(plainNotes(truths, c.Voice, note), c.Notes[note]) {
				want, wantE = note, api.OK
			}
		}
		if n, e := part.Bar(b, i); n != want || e != wantE {
			t.Fatalf("Bar %+v, %d: %d, %d", b, i, n, e)
		}
	}
}

// P5.9
func TestALostPart(t *testing.T) {
	r := rand.New(rand.NewSource(2))
	for range 1500 {
		b, sc := written(r, 0)
		if is, e := part.Right(b); !is || e != api.OK {
			t.Fatalf("Right %+v: %v, %d", b, is, e)
		}
		if l, e := part.Wrong(b); len(l) > 0 || e != api.OK {
			t.Fatalf("Wrong %+v: %v, %d", b, l, e)
		}
		ways, _ := part.Ways(b)
		for voice := range b.Voices {
			for note := range b.Notes {
				if l, e := part.Notes(b, voice, note); !slices.Contains(l, sc[voice][note]) || e != api.OK {
					t.Fatalf("Notes %+v, %d, %d: %v, %d", b, voice, note, l, e)
				}
			}
			if l, e := part.Line(b, voice); e == api.OK && !slices.Equal(l, sc[voice]) || ways == 1 && e != api.OK {
				t.Fatalf("Line %+v, %d: %v, %d", b, voice, l, e)
			}
		}
	}
}

// P5.10
func TestEachNoteCanBeCopied(t *testing.T) {
	r := rand.New(rand.NewSource(3))
	for range 200 {
		b, _ := written(r, 0)
		for voice, s := range b.Voices {
			copied := make([][]int, b.Notes)
			for _, l := range plainLines(s, b.Notes) {
				if is, _ := part.Fits(b, line(voice, l...)); is {
					for note, n := range l {
						copied[note] = append(copied[note], n)
					}
				}
			}
			for note, l := range copied {
				slices.Sort(l)
				if got, e := part.Notes(b, voice, note); !slices.Equal(got, slices.Compact(l)) || e != api.OK {
					t.Fatalf("Notes %+v, %d, %d: %v, %d, copied %v", b, voice, note, got, e, l)
				}
			}
		}
	}
}

// P5.11
func TestOneCopyMore(t *testing.T) {
	r := rand.New(rand.NewSource(4))
	for range 1000 {
		b, _ := written(r, 0)
		b.Copies = b.Copies[:min(len(b.Copies), 3)]
		truths := plainTruths(b, plainAll(b), nil)
		c := anyCopy(r, b)
		more := deep(b)
		more.Copies = append(more.Copies, c)
		was, _ := part.Ways(b)
		with := 0
		for _, sc := range truths {
			if plainRight(sc, c) {
				with++
			}
		}
		if n, e := part.Ways(more); n > was || n != with || e != api.OK {
			t.Fatalf("Ways %+v: %d of %d, %d, but %d", more, n, was, e, with)
		}
	}
}

// P5.12
func TestAllWaysAreCounted(t *testing.T) {
	r := rand.New(rand.NewSource(5))
	for range 400 {
		b := anyBook(r, 3)
		b.Copies = b.Copies[:min(len(b.Copies), 3)]
		was, _ := part.Ways(b)
		voice := r.Intn(len(b.Voices))
		ways := 0
		for _, l := range plainLines(b.Voices[voice], b.Notes) {
			more := deep(b)
			more.Copies = append(more.Copies, line(voice, l...))
			n, _ := part.Ways(more)
			ways += n
		}
		if ways != was {
			t.Fatalf("Ways %+v: %d, one by one %d", b, was, ways)
		}
		easier := []api.PartBook{b, b, b}
		easier[0].Step = min(api.PartStep, b.Step+1)
		easier[1].Chords |= 1 << r.Intn(8)
		easier[2].Perfect &^= 1 << r.Intn(8)
		for i, other := range easier {
			if n, e := part.Ways(other); n < was || e != api.OK {
				t.Fatalf("Ways %+v: %d, the easier one %d: %d, %d", b, was, i, n, e)
			}
		}
	}
}

// P5.13
func TestANoteHigher(t *testing.T) {
	r := rand.New(rand.NewSource(6))
	for range 1000 {
		b := anyBook(r, 3)
		higher, fits := deep(b), true
		for i := range higher.Voices {
			higher.Voices[i].Low++
			higher.Voices[i].High++
			fits = fits && higher.Voices[i].High <= api.PartHigh
		}
		for _, c := range higher.Copies {
			for i := range c.Notes {
				c.Notes[i]++
				fits = fits && c.Notes[i] <= api.PartHigh
			}
		}
		was, _ := part.Ways(b)
		if n, e := part.Ways(higher); fits && (n != was || e != api.OK) {
			t.Fatalf("Ways %+v: %d, higher: %d, %d", b, was, n, e)
		}
	}
}

// P5.14
func TestCopiesThatMustBeFalse(t *testing.T) {
	r := rand.New(rand.NewSource(7))
	for range 600 {
		b, _ := written(r, 2)
		wrong, e := part.Wrong(b)
		if e != api.OK {
			t.Fatalf("Wrong %+v: %d", b, e)
		}
		for set := range 1 << len(b.Copies) {
			some, out := deep(b), members(set)
			some.Copies = nil
			for i, c := range b.Copies {
				if !slices.Contains(out, i) {
					some.Copies = append(some.Copies, c)
				}
			}
			is, _ := part.Right(some)
			if slices.Equal(out, wrong) && !is || len(out) < len(wrong) && is {
				t.Fatalf("Wrong %+v: %v, but without %v: %v", b, wrong, out, is)
			}
			if !slices.Equal(out, wrong) {
				continue
			}
			for i, c := range b.Copies {
				note, e := part.Bar(b, i)
				if e != api.OK {
					continue
				}
				if l, _ := part.Notes(some, c.Voice, note); slices.Contains(l, c.Notes[note]) {
					t.Fatalf("Bar %+v, %d: %d, but there can be %v", b, i, note, l)
				}
			}
		}
	}
}

// P5.1: the greatest book is calculated with, too.
func TestTheGreatestBook(t *testing.T) {
	b := api.PartBook{Notes: 3, Voices: []api.Span{span(0, 2), span(2, 4), span(4, 6)}, Step: 7, Chords: all}
	if n, e := part.Ways(b); n != 19683 || e != api.OK {
		t.Errorf("Ways: %d, %d", n, e)
	}
	if voice, note, e := part.Ask(b); voice != 0 || note != 0 || e != api.OK {
		t.Errorf("Ask: %d, %d, %d", voice, note, e)
	}
	b.Copies = []api.PartCopy{line(2, 0, 0, 0), line(2, 1, 1, 1), line(0, 2, 2, 2), line(1, 0, 0, 0)}
	if l, e := part.Wrong(b); !slices.Equal(l, []int{0, 1, 3}) || e != api.OK {
		t.Errorf("Wrong: %v, %d", l, e)
	}
}

// P1: any arguments, also such as are not valid, are answered without a panic, and the same way twice (P2).
func TestAnyArguments(t *testing.T) {
	r := rand.New(rand.NewSource(8))
	odd := func() int {
		return []int{-1 << 63, -2, -1, 0, 1, 2, 3, 4, 5, 7, 8, 12, 13, 63, 255, 256, 1<<63 - 1}[r.Intn(17)]
	}
	for range 3000 {
		b := anyBook(r, 3)
		for range r.Intn(3) {
			switch n := r.Intn(7); {
			case n == 0:
				b.Notes = odd()
			case n == 1:
				b.Voices = append(b.Voices, span(odd(), odd()))
			case n == 2:
				b.Voices = b.Voices[:r.Intn(len(b.Voices)+1)]
			case n == 3:
				b.Step = odd()
			case n == 4:
				b.Chords, b.Perfect = odd(), odd()
			case len(b.Copies) > 0:
				b.Copies[0] = line(odd(), odd(), odd())
			}
		}
		voice, note, c := odd(), odd(), line(odd(), odd(), odd(), odd())
		if !reflect.DeepEqual(everything(b, voice, note, c), everything(b, voice, note, c)) {
			t.Fatalf("%+v: not the same twice", b)
		}
	}
}

func everything(b api.PartBook, voice, note int, c api.PartCopy) []any {
	results := []any{part.Check(b)}
	add := func(l ...any) { results = append(results, l...) }
	is, e := part.Right(b)
	add(is, e)
	n, e := part.Ways(b)
	add(n, e)
	l, e := part.Notes(b, voice, note)
	add(l, e)
	l, e = part.Line(b, voice)
	add(l, e)
	n, m, e := part.First(b)
	add(n, m, e)
	n, m, e = part.Ask(b)
	add(n, m, e)
	is, e = part.Fits(b, c)
	add(is, e)
	l, e = part.Wrong(b)
	add(l, e)
	n, e = part.Bar(b, note)
	add(n, e)
	return results
}
