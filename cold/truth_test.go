package cold_test

// The functions against a second calculation, which goes from day to day, and the properties P3.10 to P3.15, for many books.

import (
	"math/rand"
	"reflect"
	"slices"
	"testing"

	"decani/api"
	"decani/cold"
)

// none is the day on which a boy catches the cold who does not.
const none = -1

// real is what is so: where and when the cold begins, how long it takes, and when each boy catches it.
type real struct {
	bed, day, out, goes int
	caught              []int
}

func plainAway(l []api.ColdMove, bed, day int) bool {
	for _, m := range l {
		if m.Bed == bed && m.Day <= day {
			return true
		}
	}
	return false
}

// plainCold goes through all days, and on each one through all boys.
func plainCold(b api.ColdBook, r real) []int {
	caught := make([]int, b.Beds)
	for i := range caught {
		caught[i] = none
	}
	for day := r.day; day < b.Days; day++ {
		for bed := range caught {
			if caught[bed] != none || plainAway(b.Moves, bed, day) {
				continue
			}
			if bed == r.bed && day == r.day {
				caught[bed] = day
			}
			for _, by := range []int{bed - 1, bed + 1} {
				if by >= 0 && by < b.Beds && caught[by] != none && caught[by] == day-r.goes && !plainAway(b.Moves, by, day) {
					caught[bed] = day
				}
			}
		}
	}
	return caught
}

func plainAll(b api.ColdBook) []real {
	var all []real
	for bed := 0; bed < b.Beds; bed++ {
		for day := 0; day <= b.Until; day++ {
			if b.Begins&(1<<bed) == 0 || plainAway(b.Moves, bed, day) {
				continue
			}
			for out := b.Takes[0].Low; out <= b.Takes[0].High; out++ {
				for goes := b.Takes[1].Low; goes <= b.Takes[1].High; goes++ {
					r := real{bed: bed, day: day, out: out, goes: goes}
					r.caught = plainCold(b, r)
					all = append(all, r)
				}
			}
		}
	}
	return all
}

func (r real) plainIll(bed, day int) bool { return r.caught[bed] != none && day >= r.caught[bed] }

func (r real) plainCoughs(bed, day int) bool {
	return r.caught[bed] != none && day >= r.caught[bed]+r.out
}

func (r real) plainRight(h api.ColdHeard) bool { return r.plainCoughs(h.Bed, h.Day) == h.Cough }

// plainTruths are all that can be so if those hearings are right that are not left out.
func plainTruths(b api.ColdBook, out []int) []real {
	var truths []real
	for _, r := range plainAll(b) {
		right := true
		for i, h := range b.Heard {
			right = right && (slices.Contains(out, i) || r.plainRight(h))
		}
		if right {
			truths = append(truths, r)
		}
	}
	return truths
}

// members are the numbers of a set.
func members(set int) []int {
	var l []int
	for i := 0; set>>i > 0; i++ {
		if set>>i&1 == 1 {
			l = append(l, i)
		}
	}
	return l
}

// better reports whether a list comes before another one: the shorter one, or the first one.
func better(one, other []int) bool {
	return len(one) < len(other) || len(one) == len(other) && slices.Compare(one, other) < 0
}

// plainWrong goes through all sets of hearings.
func plainWrong(b api.ColdBook) []int {
	best := []int{0, 1, 2, 3, 4}
	for set := 0; set < 1<<len(b.Heard); set++ {
		if out := members(set); better(out, best) && plainTruths(b, out) != nil {
			best = out
		}
	}
	return best
}

// plainStops reports whether nobody catches the cold from the day on if these boys are moved on it.
func plainStops(b api.ColdBook, truths []real, l []int, day int) bool {
	more := deep(b)
	for _, bed := range l {
		more.Moves = append(more.Moves, api.ColdMove{Bed: bed, Day: day})
	}
	for _, r := range truths {
		if plainAway(more.Moves, r.bed, r.day) {
			continue
		}
		if slices.Max(plainCold(more, r)) >= day {
			return false
		}
	}
	return true
}

// plainApart goes through all sets of beds.
func plainApart(b api.ColdBook, truths []real, day int) ([]int, api.Errno) {
	var best []int
	found := false
	for set := 0; set < 1<<b.Beds; set++ {
		l := members(set)
		away := slices.ContainsFunc(l, func(bed int) bool { return plainAway(b.Moves, bed, day) })
		if away || len(l) > b.Rooms || found && !better(l, best) {
			continue
		}
		if plainStops(b, truths, l, day) {
			best, found = l, true
		}
	}
	if !found {
		return nil, api.ErrNone
	}
	return best, api.OK
}

// plainOften is 2 if something is so in each, 0 if in none, and 1 otherwise.
func plainOften(l []real, is func(r real) bool) int {
	some := 0
	for _, r := range l {
		if is(r) {
			some++
		}
	}
	switch some {
	case len(l):
		return 2
	case 0:
		return 0
	}
	return 1
}

// ends are the least and the greatest number; there is none if there are no numbers.
func ends(l []int) (api.Span, api.Errno) {
	if l == nil {
		return api.Span{}, api.ErrNone
	}
	return span(slices.Min(l), slices.Max(l)), api.OK
}

func anyTakes(r *rand.Rand) api.Span {
	low := 1 + r.Intn(3)
	return span(low, min(api.ColdTakes, low+r.Intn(2)))
}

func anyHeard(r *rand.Rand, b api.ColdBook) api.ColdHeard {
	return api.ColdHeard{Bed: r.Intn(b.Beds), Day: r.Intn(b.Days), Cough: r.Intn(2) == 0}
}

func anyBook(r *rand.Rand) api.ColdBook {
	b := api.ColdBook{
		Beds: 1 + r.Intn(5), Days: 1 + r.Intn(6),
		Takes: [2]api.Span{anyTakes(r), anyTakes(r)}, Rooms: r.Intn(4),
	}
	b.Begins, b.Until = 1+r.Intn(1<<b.Beds-1), r.Intn(b.Days)
	for _, bed := range r.Perm(b.Beds)[:r.Intn(1+min(b.Beds, 3))] {
		if b.Days > 1 {
			b.Moves = append(b.Moves, api.ColdMove{Bed: bed, Day: 1 + r.Intn(b.Days-1)})
		}
	}
	for range r.Intn(5) {
		b.Heard = append(b.Heard, anyHeard(r, b))
	}
	return b
}

// rightly hears only what is right in a truth of the book.
func rightly(b api.ColdBook, r *rand.Rand) (api.ColdBook, real) {
	all := plainAll(b)
	truth := all[r.Intn(len(all))]
	for i, h := range b.Heard {
		b.Heard[i].Cough = truth.plainCoughs(h.Bed, h.Day)
	}
	return b, truth
}

func deep(b api.ColdBook) api.ColdBook {
	b.Moves, b.Heard = slices.Clone(b.Moves), slices.Clone(b.Heard)
	return b
}

func TestAgainstPlainTruths(t *testing.T) {
	r := rand.New(rand.NewSource(1))
	for range 2000 {
		b := anyBook(r)
		if r.Intn(3) > 0 {
			b, _ = rightly(b, r)
		}
		was := deep(b)
		truths := plainTruths(b, nil)
		if is, e := cold.Right(b); is != (truths != nil) || e != api.OK {
			t.Fatalf("Right %+v: %v, %d", b, is, e)
		}
		if l, e := cold.Wrong(b); !slices.Equal(l, plainWrong(b)) || e != api.OK {
			t.Fatalf("Wrong %+v: %v, %d", b, l, e)
		}
		if truths == nil {
			testFalse(t, b)
		} else {
			testBeds(t, b, truths)
			testLists(t, b, truths)
			testApart(t, b, truths)
			testHearings(t, b, truths)
		}
		if !reflect.DeepEqual(b, was) {
			t.Fatalf("changed: %+v, was %+v", b, was)
		}
	}
}

func testFalse(t *testing.T, b api.ColdBook) {
	t.Helper()
	_, c := cold.Ill(b, 0, 0)
	_, d := cold.Caught(b, 0)
	_, e := cold.Coughs(b, 0, 0)
	_, f := cold.From(b)
	_, g := cold.Takes(b, 1)
	_, h := cold.Clean(b)
	_, i := cold.Fits(b, quiet(0, 0))
	for k, e := range []api.Errno{c, d, e, f, g, h, i} {
		if e != api.ErrColdFalse {
			t.Fatalf("call %d, %+v: %d", k, b, e)
		}
	}
}

func testBeds(t *testing.T, b api.ColdBook, truths []real) {
	t.Helper()
	for bed := range b.Beds {
		var caught []int
		for _, r := range truths {
			if r.caught[bed] != none {
				caught = append(caught, r.caught[bed])
			}
		}
		want, wantE := ends(caught)
		if s, e := cold.Caught(b, bed); s != want || e != wantE {
			t.Fatalf("Caught %+v, %d: %v, %d", b, bed, s, e)
		}
		for day := range b.Days {
			want := plainOften(truths, func(r real) bool { return r.plainIll(bed, day) })
			if n, e := cold.Ill(b, bed, day); n != want || e != api.OK {
				t.Fatalf("Ill %+v, %d, %d: %d, %d", b, bed, day, n, e)
			}
			want = plainOften(truths, func(r real) bool { return r.plainCoughs(bed, day) })
			if n, e := cold.Coughs(b, bed, day); n != want || e != api.OK {
				t.Fatalf("Coughs %+v, %d, %d: %d, %d", b, bed, day, n, e)
			}
		}
	}
}

func testLists(t *testing.T, b api.ColdBook, truths []real) {
	t.Helper()
	var from, clean, outs, goes []int
	for bed := range b.Beds {
		if plainOften(truths, func(r real) bool { return r.bed == bed }) > 0 {
			from = append(from, bed)
		}
		if plainOften(truths, func(r real) bool { return r.caught[bed] == none }) == 2 {
			clean = append(clean, bed)
		}
	}
	for _, r := range truths {
		outs, goes = append(outs, r.out), append(goes, r.goes)
	}
	if l, e := cold.From(b); !slices.Equal(l, from) || e != api.OK {
		t.Fatalf("From %+v: %v, %d", b, l, e)
	}
	if l, e := cold.Clean(b); !slices.Equal(l, clean) || e != api.OK {
		t.Fatalf("Clean %+v: %v, %d", b, l, e)
	}
	out, _ := ends(outs)
	if s, e := cold.Takes(b, api.ColdOut); s != out || e != api.OK {
		t.Fatalf("Takes %+v, 0: %v, %d", b, s, e)
	}
	goesOn, _ := ends(goes)
	if s, e := cold.Takes(b, api.ColdGoes); s != goesOn || e != api.OK {
		t.Fatalf("Takes %+v, 1: %v, %d", b, s, e)
	}
}

func testApart(t *testing.T, b api.ColdBook, truths []real) {
	t.Helper()
	for day := 1; day < b.Days; day++ {
		want, wantE := plainApart(b, truths, day)
		if l, e := cold.Apart(b, day); !slices.Equal(l, want) || e != wantE {
			t.Fatalf("Apart %+v, %d: %v, %d; %v, %d", b, day, l, e, want, wantE)
		}
	}
}

func testHearings(t *testing.T, b api.ColdBook, truths []real) {
	t.Helper()
	for bed := range b.Beds {
		for day := range b.Days {
			for _, h := range []api.ColdHeard{cough(bed, day), quiet(bed, day)} {
				want := slices.ContainsFunc(truths, func(r real) bool { return r.plainRight(h) })
				if is, e := cold.Fits(b, h); is != want || e != api.OK {
					t.Fatalf("Fits %+v, %+v: %v, %d", b, h, is, e)
				}
			}
		}
	}
}

func within(n int, s api.Span) bool { return s.Low <= n && n <= s.High }

// P3.10
func TestWhoCanHaveTheCold(t *testing.T) {
	r := rand.New(rand.NewSource(2))
	for range 1000 {
		b, truth := rightly(anyBook(r), r)
		if is, e := cold.Right(b); !is || e != api.OK {
			t.Fatalf("Right %+v: %v, %d", b, is, e)
		}
		if l, e := cold.Wrong(b); len(l) > 0 || e != api.OK {
			t.Fatalf("Wrong %+v: %v, %d", b, l, e)
		}
		from, _ := cold.From(b)
		out, _ := cold.Takes(b, api.ColdOut)
		goes, _ := cold.Takes(b, api.ColdGoes)
		if !slices.Contains(from, truth.bed) || !within(truth.out, out) || !within(truth.goes, goes) {
			t.Fatalf("%+v, %+v: %v, %v, %v", b, truth, from, out, goes)
		}
		clean, _ := cold.Clean(b)
		for bed, day := range truth.caught {
			s, e := cold.Caught(b, bed)
			if day != none && (e != api.OK || !within(day, s) || slices.Contains(clean, bed)) {
				t.Fatalf("%+v, %+v, %d: %v, %d, %v", b, truth, bed, s, e, clean)
			}
			for day := range b.Days {
				ill, _ := cold.Ill(b, bed, day)
				coughs, _ := cold.Coughs(b, bed, day)
				if !agrees(ill, truth.plainIll(bed, day)) || !agrees(coughs, truth.plainCoughs(bed, day)) {
					t.Fatalf("%+v, %+v, %d, %d: %d, %d", b, truth, bed, day, ill, coughs)
				}
			}
		}
	}
}

// agrees reports whether how often something is so says nothing else of a truth.
func agrees(often int, is bool) bool { return often == 1 || (often == 2) == is }

// P3.11
func TestWhoHasItKeepsIt(t *testing.T) {
	r := rand.New(rand.NewSource(3))
	for range 1000 {
		b, _ := rightly(anyBook(r), r)
		for bed := range b.Beds {
			before, coughed := 0, 0
			for day := range b.Days {
				ill, _ := cold.Ill(b, bed, day)
				coughs, _ := cold.Coughs(b, bed, day)
				if ill < before || coughs < coughed || ill < coughs {
					t.Fatalf("%+v, %d, %d: %d, %d", b, bed, day, ill, coughs)
				}
				before, coughed = ill, coughs
			}
			s, e := cold.Caught(b, bed)
			if e != api.OK {
				continue
			}
			on, _ := cold.Ill(b, bed, s.Low)
			sooner := 0
			if s.Low > 0 {
				sooner, _ = cold.Ill(b, bed, s.Low-1)
			}
			// In some truth he does not have it yet on the day before the last one.
			late := 0
			if s.High > 0 {
				late, _ = cold.Ill(b, bed, s.High-1)
			}
			if on == 0 || sooner > 0 || late == 2 {
				t.Fatalf("Caught %+v, %d: %v, but %d, %d, %d", b, bed, s, on, sooner, late)
			}
		}
	}
}

// P3.12: without hearings a dormitory in which the boys are moved is a book.
func TestNobodyElse(t *testing.T) {
	r := rand.New(rand.NewSource(4))
	for range 1000 {
		b := anyBook(r)
		b.Heard, b.Moves = nil, nil
		if b.Days == 1 {
			continue
		}
		day := 1 + r.Intn(b.Days-1)
		l, e := cold.Apart(b, day)
		for set := range 1 << b.Beds {
			some := members(set)
			if len(some) > b.Rooms || e == api.OK && better(l, some) {
				continue
			}
			for _, bed := range some {
				b.Moves = append(b.Moves, api.ColdMove{Bed: bed, Day: day})
			}
			if want := slices.Equal(some, l) && e == api.OK; isOver(t, b, day) != want {
				t.Fatalf("Apart %+v, %d: %v, %d", b, day, l, e)
			}
			b.Moves = nil
		}
	}
}

// isOver reports whether nobody catches the cold from a day on.
func isOver(t *testing.T, b api.ColdBook, day int) bool {
	t.Helper()
	for bed := range b.Beds {
		s, e := cold.Caught(b, bed)
		if e != api.OK && e != api.ErrNone {
			t.Fatalf("Caught %+v, %d: %d", b, bed, e)
		}
		if e == api.OK && s.High >= day {
			return false
		}
	}
	return true
}

// P3.13
func TestOneHearingMore(t *testing.T) {
	r := rand.New(rand.NewSource(5))
	for range 1000 {
		b, _ := rightly(anyBook(r), r)
		b.Heard = b.Heard[:min(len(b.Heard), 3)]
		h := anyHeard(r, b)
		if is, _ := cold.Fits(b, h); !is {
			continue
		}
		more := deep(b)
		more.Heard = append(more.Heard, h)
		was, _ := cold.From(b)
		from, e := cold.From(more)
		clean, _ := cold.Clean(b)
		cleaner, f := cold.Clean(more)
		if e != api.OK || f != api.OK || !slices.Equal(both(from, was), from) || !slices.Equal(both(clean, cleaner), clean) {
			t.Fatalf("%+v: %v, %v", more, from, cleaner)
		}
		for kind := range 2 {
			wide, _ := cold.Takes(b, kind)
			if s, e := cold.Takes(more, kind); e != api.OK || !within(s.Low, wide) || !within(s.High, wide) {
				t.Fatalf("Takes %+v, %d: %v, %d", more, kind, s, e)
			}
		}
		for bed := range b.Beds {
			testOneMore(t, b, more, bed)
		}
	}
}

// both are the numbers of a list that are in another one, too.
func both(l, other []int) []int {
	return slices.DeleteFunc(slices.Clone(l), func(n int) bool { return !slices.Contains(other, n) })
}

func testOneMore(t *testing.T, b, more api.ColdBook, bed int) {
	t.Helper()
	wide, d := cold.Caught(b, bed)
	s, e := cold.Caught(more, bed)
	if e == api.OK && (d != api.OK || !within(s.Low, wide) || !within(s.High, wide)) {
		t.Fatalf("Caught %+v, %d: %v, was %v, %d", more, bed, s, wide, d)
	}
	for day := range b.Days {
		was, _ := cold.Ill(b, bed, day)
		if n, e := cold.Ill(more, bed, day); e != api.OK || was != 1 && n != was {
			t.Fatalf("Ill %+v, %d, %d: %d, %d", more, bed, day, n, e)
		}
		was, _ = cold.Coughs(b, bed, day)
		if n, e := cold.Coughs(more, bed, day); e != api.OK || was != 1 && n != was {
			t.Fatalf("Coughs %+v, %d, %d: %d, %d", more, bed, day, n, e)
		}
	}
}

// P3.13
func TestMovedSooner(t *testing.T) {
	r := rand.New(rand.NewSource(6))
	for range 1000 {
		b := anyBook(r)
		b.Heard = nil
		if len(b.Moves) == 0 || b.Moves[0].Day == 1 {
			continue
		}
		sooner := deep(b)
		sooner.Moves[0].Day--
		for bed := range b.Beds {
			was, d := cold.Caught(b, bed)
			s, e := cold.Caught(sooner, bed)
			if e == api.OK && (d != api.OK || s.Low < was.Low) {
				t.Fatalf("Caught %+v, %d: %v, was %v, %d", sooner, bed, s, was, d)
			}
		}
	}
}

// fromOtherEnd tells of the same dormitory from its other end.
func fromOtherEnd(b api.ColdBook) api.ColdBook {
	other := deep(b)
	other.Begins = 0
	for _, bed := range members(b.Begins) {
		other.Begins |= 1 << (b.Beds - 1 - bed)
	}
	for i, m := range other.Moves {
		other.Moves[i].Bed = b.Beds - 1 - m.Bed
	}
	for i, h := range other.Heard {
		other.Heard[i].Bed = b.Beds - 1 - h.Bed
	}
	return other
}

// turned are beds, told from the other end.
func turned(b api.ColdBook, l []int) []int {
	l = slices.Clone(l)
	slices.Reverse(l)
	for i, bed := range l {
		l[i] = b.Beds - 1 - bed
	}
	return l
}

// P3.14
func TestFromItsOtherEnd(t *testing.T) {
	r := rand.New(rand.NewSource(7))
	for range 1000 {
		b := anyBook(r)
		other := fromOtherEnd(b)
		is, _ := cold.Right(b)
		wrong, _ := cold.Wrong(b)
		from, _ := cold.From(b)
		clean, _ := cold.Clean(b)
		if same, e := cold.Right(other); same != is || e != api.OK {
			t.Fatalf("Right %+v: %v, %d", other, same, e)
		}
		if l, e := cold.Wrong(other); !slices.Equal(l, wrong) || e != api.OK {
			t.Fatalf("Wrong %+v: %v, %d", other, l, e)
		}
		if l, _ := cold.From(other); !slices.Equal(l, turned(b, from)) {
			t.Fatalf("From %+v: %v", other, l)
		}
		if l, _ := cold.Clean(other); !slices.Equal(l, turned(b, clean)) {
			t.Fatalf("Clean %+v: %v", other, l)
		}
		for bed := range b.Beds {
			last := b.Beds - 1 - bed
			want, wantE := cold.Caught(b, bed)
			if s, e := cold.Caught(other, last); s != want || e != wantE {
				t.Fatalf("Caught %+v, %d: %v, %d", other, last, s, e)
			}
			for day := range b.Days {
				want, wantE := cold.Coughs(b, bed, day)
				if n, e := cold.Coughs(other, last, day); n != want || e != wantE {
					t.Fatalf("Coughs %+v, %d, %d: %d, %d", other, last, day, n, e)
				}
			}
		}
		for day := 1; day < b.Days; day++ {
			want, wantE := cold.Apart(b, day)
			if l, e := cold.Apart(other, day); len(l) != len(want) || e != wantE {
				t.Fatalf("Apart %+v, %d: %v, %d", other, day, l, e)
			}
		}
	}
}

// P3.15
func TestHearingsThatMustBeWrong(t *testing.T) {
	r := rand.New(rand.NewSource(8))
	for range 1000 {
		b := anyBook(r)
		wrong, e := cold.Wrong(b)
		if e != api.OK {
			t.Fatalf("Wrong %+v: %d", b, e)
		}
		for set := range 1 << len(b.Heard) {
			some, out := deep(b), members(set)
			some.Heard = nil
			for i, h := range b.Heard {
				if !slices.Contains(out, i) {
					some.Heard = append(some.Heard, h)
				}
			}
			is, _ := cold.Right(some)
			if slices.Equal(out, wrong) && !is || len(out) < len(wrong) && is {
				t.Fatalf("Wrong %+v: %v, but without %v: %v", b, wrong, out, is)
			}
		}
	}
}

// P1: any arguments, also such as are not valid, are answered without a panic, and the same way twice (P2).
func TestAnyArguments(t *testing.T) {
	r := rand.New(rand.NewSource(9))
	odd := func() int {
		return []int{-1 << 63, -2, -1, 0, 1, 2, 3, 4, 5, 6, 31, 63, 64, 1<<63 - 1}[r.Intn(14)]
	}
	for range 3000 {
		b := anyBook(r)
		for range r.Intn(3) {
			switch n := r.Intn(6); {
			case n == 0:
				b.Beds, b.Begins = odd(), odd()
			case n == 1:
				b.Days, b.Until = odd(), odd()
			case n == 2:
				b.Takes[r.Intn(2)] = span(odd(), odd())
			case n == 3:
				b.Rooms = odd()
			case n == 4 && len(b.Moves) > 0:
				b.Moves[0] = api.ColdMove{Bed: odd(), Day: odd()}
			case len(b.Heard) > 0:
				b.Heard[0] = cough(odd(), odd())
			}
		}
		bed, day, kind, h := odd(), odd(), odd(), cough(odd(), odd())
		if !reflect.DeepEqual(everything(b, bed, day, kind, h), everything(b, bed, day, kind, h)) {
			t.Fatalf("%+v: not the same twice", b)
		}
	}
}

func everything(b api.ColdBook, bed, day, kind int, h api.ColdHeard) []any {
	results := []any{cold.Check(b)}
	add := func(l ...any) { results = append(results, l...) }
	is, e := cold.Right(b)
	add(is, e)
	n, e := cold.Ill(b, bed, day)
	add(n, e)
	s, e := cold.Caught(b, bed)
	add(s, e)
	n, e = cold.Coughs(b, bed, day)
	add(n, e)
	l, e := cold.From(b)
	add(l, e)
	s, e = cold.Takes(b, kind)
	add(s, e)
	l, e = cold.Clean(b)
	add(l, e)
	l, e = cold.Apart(b, day)
	add(l, e)
	is, e = cold.Fits(b, h)
	add(is, e)
	l, e = cold.Wrong(b)
	add(l, e)
	return results
}
