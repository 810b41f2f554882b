package office_test

// The functions against a second calculation, which is as plain as the chapter's sentences, and the properties P1.10 to P1.15, for many books.

import (
	"math/rand"
	"reflect"
	"slices"
	"testing"

	"decani/api"
	"decani/office"
)

// said is what a use says of a feast that yields.
type said struct{ day, rule, does int }

// year is one use in one truth: by day the chief one, what is sung, and the psalms.
type year struct {
	chief, psalm []int
	sung         [][]int
	said         []said
}

func plainYear(b api.OfficeBook, use int, truth []int) year {
	var y year
	moved := map[int][]int{}
	sungPsalms := 0
	for day := 0; day < b.Days; day++ {
		come := slices.Clone(moved[day])
		for f, d := range truth {
			if d == day {
				come = append(come, f)
			}
		}
		slices.Sort(come)
		chief := -1
		var sung []int
		for i, f := range come {
			if i == 0 {
				chief = f
				continue
			}
			low, high := f, chief
			switch p, q := b.Feasts[f].Rank, b.Feasts[chief].Rank; {
			case p > q, p == q && f < chief:
				low, high = chief, f
			}
			chief = high
			s := said{day, -1, api.OfficeOut}
			for j := len(b.Uses[use].Rules) - 1; j >= 0; j-- {
				if r := b.Uses[use].Rules[j]; r.Rank == b.Feasts[low].Rank && r.To == b.Feasts[high].Rank {
					s.rule, s.does = j, r.Does
				}
			}
			y.said = append(y.said, s)
			if s.does == api.OfficeNext {
				moved[day+1] = append(moved[day+1], low)
			}
			if s.does == api.OfficeToo {
				sung = append(sung, low)
			}
		}
		if chief >= 0 {
			sung = append(sung, chief)
		}
		slices.Sort(sung)
		psalm := -1
		if chief < 0 || b.Feasts[chief].Rank == 0 {
			psalm = b.First + day
			if b.Uses[use].Goes {
				psalm = b.First + sungPsalms
			}
			if psalm >= 30 {
				psalm -= 30
			}
			sungPsalms++
		}
		y.chief, y.psalm, y.sung = append(y.chief, chief), append(y.psalm, psalm), append(y.sung, sung)
	}
	return y
}

// plainTruths are all truths of a book in which those of its notes are right that are not left out.
func plainTruths(b api.OfficeBook, out []int) (all [][2]year, dates [][]int) {
	truths := [][]int{nil}
	for _, f := range b.Feasts {
		var longer [][]int
		for _, t := range truths {
			for d := f.Day.Low; d <= f.Day.High; d++ {
				longer = append(longer, append(slices.Clone(t), d))
			}
		}
		truths = longer
	}
	for _, t := range truths {
		y := [2]year{plainYear(b, 0, t), plainYear(b, 1, t)}
		right := true
		for i, n := range b.Notes {
			right = right && (slices.Contains(out, i) || y[n.Use].chief[n.Day] == n.Chief)
		}
		if right {
			all, dates = append(all, y), append(dates, t)
		}
	}
	return all, dates
}

// plainWrong goes through all sets of notes.
func plainWrong(b api.OfficeBook) []int {
	best := []int{0, 1, 2, 3}
	for set := 0; set < 1<<len(b.Notes); set++ {
		var out []int
		for i := range b.Notes {
			if set>>i&1 == 1 {
				out = append(out, i)
			}
		}
		if all, _ := plainTruths(b, out); len(all) > 0 && (len(out) < len(best) || len(out) == len(best) && slices.Compare(out, best) < 0) {
			best = out
		}
	}
	return best
}

func sorted(l []int) []int {
	slices.Sort(l)
	return slices.Compact(l)
}

// often is 2 for n of n, 0 for none of them, and 1 otherwise.
func often(some, n int) int {
	switch some {
	case n:
		return 2
	case 0:
		return 0
	}
	return 1
}

func anyBook(r *rand.Rand) api.OfficeBook {
	b := api.OfficeBook{Days: 1 + r.Intn(6), First: r.Intn(30)}
	for range r.Intn(5) {
		low := r.Intn(b.Days)
		b.Feasts = append(b.Feasts, feast(low, min(b.Days-1, low+r.Intn(4)), r.Intn(4)))
	}
	for use := range b.Uses {
		b.Uses[use].Goes = r.Intn(2) == 0
		for range r.Intn(6) {
			b.Uses[use].Rules = append(b.Uses[use].Rules, rule(r.Intn(4), r.Intn(4), r.Intn(3)))
		}
	}
	for range r.Intn(5) {
		b.Notes = append(b.Notes, note(r.Intn(2), r.Intn(b.Days), r.Intn(len(b.Feasts)+1)-1))
	}
	return b
}

// rightly notes only what is right in a truth of the book.
func rightly(b api.OfficeBook, r *rand.Rand) (api.OfficeBook, []int) {
	b.Notes = nil
	all, dates := plainTruths(b, nil)
	truth := r.Intn(len(all))
	for range r.Intn(5) {
		use, day := r.Intn(2), r.Intn(b.Days)
		b.Notes = append(b.Notes, note(use, day, all[truth][use].chief[day]))
	}
	return b, dates[truth]
}

func deep(b api.OfficeBook) api.OfficeBook {
	b.Feasts, b.Notes = slices.Clone(b.Feasts), slices.Clone(b.Notes)
	for use := range b.Uses {
		b.Uses[use].Rules = slices.Clone(b.Uses[use].Rules)
	}
	return b
}

func TestAgainstPlainTruths(t *testing.T) {
	r := rand.New(rand.NewSource(1))
	for range 1500 {
		b := anyBook(r)
		if r.Intn(3) > 0 {
			b, _ = rightly(b, r)
		}
		was := deep(b)
		all, dates := plainTruths(b, nil)
		if is, e := office.Right(b); is != (len(all) > 0) || e != api.OK {
			t.Fatalf("Right %+v: %v, %d", b, is, e)
		}
		if l, e := office.Wrong(b); !slices.Equal(l, plainWrong(b)) || e != api.OK {
			t.Fatalf("Wrong %+v: %v, %d", b, l, e)
		}
		if len(all) == 0 {
			testFalse(t, b)
		} else {
			testDays(t, b, all)
			testFeasts(t, b, all, dates)
			testNotes(t, b, all)
			testPart(t, b, all)
		}
		if !reflect.DeepEqual(b, was) {
			t.Fatalf("changed: %+v, was %+v", b, was)
		}
	}
}

func testFalse(t *testing.T, b api.OfficeBook) {
	t.Helper()
	_, e := office.Chief(b, 0, 0)
	_, f := office.Psalm(b, 1, 0)
	_, g := office.Agree(b, 0)
	_, _, _, h := office.Part(b)
	_, i := office.Fits(b, note(0, 0, -1))
	for k, e := range []api.Errno{e, f, g, h, i} {
		if e != api.ErrOfficeFalse {
			t.Fatalf("call %d, %+v: %d", k, b, e)
		}
	}
}

func testDays(t *testing.T, b api.OfficeBook, all [][2]year) {
	t.Helper()
	for day := range b.Days {
		agree := 0
		for _, y := range all {
			if y[0].chief[day] == y[1].chief[day] && slices.Equal(y[0].sung[day], y[1].sung[day]) {
				agree++
			}
		}
		if n, e := office.Agree(b, day); n != often(agree, len(all)) || e != api.OK {
			t.Fatalf("Agree %+v, %d: %d, %d", b, day, n, e)
		}
		for use := range 2 {
			var chiefs, psalms []int
			for _, y := range all {
				chiefs, psalms = append(chiefs, y[use].chief[day]), append(psalms, y[use].psalm[day])
			}
			if l, e := office.Chief(b, use, day); !slices.Equal(l, sorted(chiefs)) || e != api.OK {
				t.Fatalf("Chief %+v, %d, %d: %v, %d", b, use, day, l, e)
			}
			if l, e := office.Psalm(b, use, day); !slices.Equal(l, sorted(psalms)) || e != api.OK {
				t.Fatalf("Psalm %+v, %d, %d: %v, %d", b, use, day, l, e)
			}
		}
	}
}

func testFeasts(t *testing.T, b api.OfficeBook, all [][2]year, dates [][]int) {
	t.Helper()
	for f := range b.Feasts {
		var on []int
		for _, d := range dates {
			on = append(on, d[f])
		}
		if s, e := office.Day(b, f); s != span(slices.Min(on), slices.Max(on)) || e != api.OK {
			t.Fatalf("Day %+v, %d: %v, %d", b, f, s, e)
		}
		for use := range 2 {
			var sung []int
			for _, y := range all {
				for day, l := range y[use].sung {
					if slices.Contains(l, f) {
						sung = append(sung, day)
					}
				}
			}
			want, wantE := api.Span{}, api.ErrNone
			if len(sung) > 0 {
				want, wantE = span(slices.Min(sung), slices.Max(sung)), api.OK
			}
			if s, e := office.Falls(b, use, f); s != want || e != wantE {
				t.Fatalf("Falls %+v, %d, %d: %v, %d", b, use, f, s, e)
			}
			if n, e := office.Kept(b, use, f); n != often(len(sung), len(all)) || e != api.OK {
				t.Fatalf("Kept %+v, %d, %d: %d, %d", b, use, f, n, e)
			}
		}
	}
}

// testNotes tests Fits, and P1.14: each chief one that is returned can be noted, no other one can.
func testNotes(t *testing.T, b api.OfficeBook, all [][2]year) {
	t.Helper()
	for use := range 2 {
		for day := range b.Days {
			for chief := -1; chief < len(b.Feasts); chief++ {
				want := slices.ContainsFunc(all, func(y [2]year) bool { return y[use].chief[day] == chief })
				if is, e := office.Fits(b, note(use, day, chief)); is != want || e != api.OK {
					t.Fatalf("Fits %+v, %d, %d, %d: %v, %d", b, use, day, chief, is, e)
				}
			}
		}
	}
}

func testPart(t *testing.T, b api.OfficeBook, all [][2]year) {
	t.Helper()
	var want []int
	for _, y := range all {
		for i, s := range y[0].said {
			o := y[1].said[i]
			if s.does == o.does {
				continue
			}
			if p := []int{s.day, s.rule, o.rule}; want == nil || slices.Compare(p, want) < 0 {
				want = p
			}
			break
		}
	}
	d, p, q, e := office.Part(b)
	if want == nil && (e != api.ErrNone || d != 0 || p != 0 || q != 0) || want != nil && (e != api.OK || !slices.Equal([]int{d, p, q}, want)) {
		t.Fatalf("Part %+v: %d, %d, %d, %d", b, d, p, q, e)
	}
}

// P1.10, P1.11 (a feast is not sung before its day), P1.13
func TestWhatIsSung(t *testing.T) {
	r := rand.New(rand.NewSource(2))
	for range 1000 {
		b, truth := rightly(anyBook(r), r)
		if is, e := office.Right(b); !is || e != api.OK {
			t.Fatalf("Right %+v: %v, %d", b, is, e)
		}
		if l, e := office.Wrong(b); len(l) > 0 || e != api.OK {
			t.Fatalf("Wrong %+v: %v, %d", b, l, e)
		}
		for use := range 2 {
			y := plainYear(b, use, truth)
			for day := range b.Days {
				chiefs, _ := office.Chief(b, use, day)
				psalms, _ := office.Psalm(b, use, day)
				if !slices.Contains(chiefs, y.chief[day]) || !slices.Contains(psalms, y.psalm[day]) {
					t.Fatalf("%+v, %d, %d: %v, %v", b, use, day, chiefs, psalms)
				}
				for _, f := range y.sung[day] {
					if s, e := office.Falls(b, use, f); e != api.OK || day < s.Low || day > s.High || s.Low < b.Feasts[f].Day.Low {
						t.Fatalf("Falls %+v, %d, %d: %v, %d", b, use, f, s, e)
					}
				}
			}
		}
		last, _, _, e := office.Part(b)
		if e == api.ErrNone {
			last = b.Days
		}
		for day := range last {
			if n, _ := office.Agree(b, day); n != 2 {
				t.Fatalf("Agree %+v, %d: %d before %d", b, day, n, last)
			}
		}
	}
}

// P1.11
func TestGreatestRank(t *testing.T) {
	r := rand.New(rand.NewSource(3))
	for range 500 {
		b := anyBook(r)
		b.Notes = nil
		if len(b.Feasts) == 0 {
			continue
		}
		f := r.Intn(len(b.Feasts))
		for i := range b.Feasts {
			b.Feasts[i].Rank = min(b.Feasts[i].Rank, 2)
		}
		b.Feasts[f].Rank = 3
		for use := range 2 {
			own, _ := office.Day(b, f)
			falls, _ := office.Falls(b, use, f)
			kept, _ := office.Kept(b, use, f)
			if falls != own || kept != 2 {
				t.Fatalf("%+v, %d, %d: %v, %d", b, use, f, falls, kept)
			}
			day := own.Low
			b.Feasts[f].Day = span(day, day)
			if l, _ := office.Chief(b, use, day); !slices.Equal(l, []int{f}) {
				t.Fatalf("Chief %+v, %d, %d: %v", b, use, day, l)
			}
		}
	}
}

// P1.12
func TestSameRules(t *testing.T) {
	r := rand.New(rand.NewSource(4))
	for range 500 {
		b, _ := rightly(anyBook(r), r)
		b.Uses[1].Rules = b.Uses[0].Rules
		b.Notes = nil
		for day := range b.Days {
			if n, e := office.Agree(b, day); n != 2 || e != api.OK {
				t.Fatalf("Agree %+v, %d: %d, %d", b, day, n, e)
			}
		}
		if _, _, _, e := office.Part(b); e != api.ErrNone {
			t.Fatalf("Part %+v: %d", b, e)
		}
	}
}

// P1.14
func TestOneNoteMore(t *testing.T) {
	r := rand.New(rand.NewSource(5))
	for range 500 {
		b, _ := rightly(anyBook(r), r)
		b.Notes = b.Notes[:min(len(b.Notes), 3)]
		use, day := r.Intn(2), r.Intn(b.Days)
		more := deep(b)
		chiefs, _ := office.Chief(b, use, day)
		more.Notes = append(more.Notes, note(use, day, chiefs[r.Intn(len(chiefs))]))
		for f := range b.Feasts {
			wide, _ := office.Day(b, f)
			if s, e := office.Day(more, f); e != api.OK || s.Low < wide.Low || s.High > wide.High {
				t.Fatalf("Day %+v, %d: %v, %d", more, f, s, e)
			}
		}
		for d := range b.Days {
			wide, _ := office.Chief(b, 1-use, d)
			l, e := office.Chief(more, 1-use, d)
			if e != api.OK || slices.ContainsFunc(l, func(n int) bool { return !slices.Contains(wide, n) }) {
				t.Fatalf("Chief %+v, %d, %d: %v, %d", more, 1-use, d, l, e)
			}
		}
	}
}

// P1.15
func TestNotesThatMustBeWrong(t *testing.T) {
	r := rand.New(rand.NewSource(6))
	for range 500 {
		b := anyBook(r)
		wrong, e := office.Wrong(b)
		if e != api.OK {
			t.Fatalf("Wrong %+v: %d", b, e)
		}
		for out := 0; out < 1<<len(b.Notes); out++ {
			some := deep(b)
			some.Notes = nil
			var left []int
			for i, n := range b.Notes {
				if out>>i&1 == 1 {
					left = append(left, i)
				} else {
					some.Notes = append(some.Notes, n)
				}
			}
			is, _ := office.Right(some)
			if slices.Equal(left, wrong) && !is || len(left) < len(wrong) && is {
				t.Fatalf("Wrong %+v: %v, but without %v: %v", b, wrong, left, is)
			}
		}
	}
}

// P1: any arguments, also such as are not valid, are answered without a panic, and the same way twice (P2).
func TestAnyArguments(t *testing.T) {
	r := rand.New(rand.NewSource(7))
	odd := func() int {
		return []int{-1 << 63, -2, -1, 0, 1, 2, 3, 4, 5, 6, 29, 30, 1<<63 - 1}[r.Intn(13)]
	}
	for range 3000 {
		b := anyBook(r)
		for range r.Intn(3) {
			switch n := r.Intn(5); {
			case n == 0:
				b.Days = odd()
			case n == 1 && len(b.Feasts) > 0:
				b.Feasts[0] = feast(odd(), odd(), odd())
			case n == 2 && len(b.Uses[1].Rules) > 0:
				b.Uses[1].Rules[0] = rule(odd(), odd(), odd())
			case n == 3 && len(b.Notes) > 0:
				b.Notes[0] = note(odd(), odd(), odd())
			default:
				b.First = odd()
			}
		}
		use, day, f, n := odd(), odd(), odd(), note(odd(), odd(), odd())
		if !reflect.DeepEqual(everything(b, use, day, f, n), everything(b, use, day, f, n)) {
			t.Fatalf("%+v: not the same twice", b)
		}
	}
}

func everything(b api.OfficeBook, use, day, f int, n api.OfficeNote) []any {
	results := []any{office.Check(b)}
	add := func(l ...any) { results = append(results, l...) }
	is, e := office.Right(b)
	add(is, e)
	s, e := office.Day(b, f)
	add(s, e)
	l, e := office.Chief(b, use, day)
	add(l, e)
	s, e = office.Falls(b, use, f)
	add(s, e)
	k, e := office.Kept(b, use, f)
	add(k, e)
	l, e = office.Psalm(b, use, day)
	add(l, e)
	k, e = office.Agree(b, day)
	add(k, e)
	d, p, q, e := office.Part(b)
	add(d, p, q, e)
	is, e = office.Fits(b, n)
	add(is, e)
	l, e = office.Wrong(b)
	add(l, e)
	return results
}
