package founder_test

// The functions against a second calculation, in which each day is given a gift or none, for all truths of the season, and the properties P9.8 to P9.12, for many books.

import (
	"cmp"
	"math/rand"
	"reflect"
	"slices"
	"testing"

	"decani/api"
	"decani/founder"
	"decani/office"
)

// sungBy is by use and day the chief feast, or -1.
type sungBy [2][6]int

// plainChiefs are the chief feasts of a season in which the days of all feasts are these.
func plainChiefs(b api.OfficeBook, truth []int) sungBy {
	var chiefs sungBy
	for use := range chiefs {
		at := slices.Clone(truth)
		for day := range b.Days {
			chief := -1
			// A feast that is moved to the next day is gone through again on it.
			for f := range at {
				if at[f] != day {
					continue
				}
				if chief < 0 {
					chief = f
					continue
				}
				low := f
				if b.Feasts[f].Rank > b.Feasts[chief].Rank {
					low, chief = chief, f
				}
				if plainDoes(b.Uses[use].Rules, b.Feasts[low].Rank, b.Feasts[chief].Rank) == api.OfficeNext {
					at[low] = day + 1
				}
			}
			chiefs[use][day] = chief
		}
	}
	return chiefs
}

func plainDoes(rules []api.OfficeRule, rank, to int) int {
	for _, r := range rules {
		if r.Rank == rank && r.To == to {
			return r.Does
		}
	}
	return api.OfficeOut
}

// plainTruths are the chief feasts of all truths of a book.
func plainTruths(b api.OfficeBook) []sungBy {
	truths := [][]int{nil}
	for _, f := range b.Feasts {
		var longer [][]int
		for _, t := range truths {
			for d := f.Day.Low; d <= f.Day.High; d++ {
				longer = append(longer, append(slices.Clone(t), d))
			}
		}
		truths = longer
	}
	var all []sungBy
	for _, t := range truths {
		chiefs := plainChiefs(b, t)
		if !slices.ContainsFunc(b.Notes, func(n api.OfficeNote) bool { return chiefs[n.Use][n.Day] != n.Chief }) {
			all = append(all, chiefs)
		}
	}
	return all
}

// lets reports whether a gift can have a service on a day with such a chief feast.
func lets(b api.FounderBook, gift, chief int) bool {
	return chief < 0 || b.Gifts[gift].Upto >= 0 && b.Office.Feasts[chief].Rank <= b.Gifts[gift].Upto
}

// plainBook is a book, and of each day and gift whether this day is open to this gift in all truths.
type plainBook struct {
	api.FounderBook
	open [6][3]bool
}

func newPlain(b api.FounderBook, truths []sungBy) plainBook {
	p := plainBook{FounderBook: b}
	for day := range b.Office.Days {
		for g, gift := range b.Gifts {
			p.open[day][g] = !slices.ContainsFunc(truths, func(c sungBy) bool { return !lets(b, g, c[gift.Use][day]) })
		}
	}
	return p
}

// choices are what can be sung on a day: one gift's service or none, or surely those of two gifts.
func (p plainBook) choices(day, twice int) [][]int {
	if day == twice {
		return [][]int{{0, 1}, {0, 2}, {1, 2}}
	}
	return [][]int{nil, {0}, {1}, {2}}
}

// all are all plans, with two services on one day (or on none, for nobody).
func (p plainBook) all(twice int) [][]api.FounderSung {
	plans := [][]api.FounderSung{nil}
	for day := range p.Office.Days {
		var more [][]api.FounderSung
		for _, choice := range p.choices(day, twice) {
			for _, before := range plans {
				longer := slices.Clone(before)
				for _, g := range choice {
					longer = append(longer, api.FounderSung{Day: day, Gift: g})
				}
				if p.suits(longer) {
					more = append(more, longer)
				}
			}
		}
		plans = more
	}
	return plans
}

// suits reports whether all days are open to the gifts, of which none has too many services.
func (p plainBook) suits(l []api.FounderSung) bool {
	var sung [3]int
	for _, s := range l {
		sung[s.Gift]++
		if s.Gift >= len(p.Gifts) || !p.open[s.Day][s.Gift] || sung[s.Gift] > p.Gifts[s.Gift].Services {
			return false
		}
	}
	return true
}

// owedTo is what is owed to each gift by services.
func (p plainBook) owedTo(l []api.FounderSung) []int {
	var pence []int
	for g, gift := range p.Gifts {
		owed := gift.Services * gift.Pence
		for _, s := range l {
			if s.Gift == g {
				owed -= gift.Pence
			}
		}
		pence = append(pence, owed)
	}
	return pence
}

func (p plainBook) owed(l []api.FounderSung) int { return total(p.owedTo(l)) }

func total(l []int) int {
	all := 0
	for _, n := range l {
		all += n
	}
	return all
}

func compareServices(one, other api.FounderSung) int {
	return cmp.Or(one.Day-other.Day, one.Gift-other.Gift)
}

// best is the best plan of several ones.
func (p plainBook) best(plans [][]api.FounderSung) []api.FounderSung {
	return slices.MinFunc(plans, func(one, other []api.FounderSung) int {
		return cmp.Or(p.owed(one)-p.owed(other), slices.CompareFunc(one, other, compareServices))
	})
}

// extra is the first day on which two services make the least that is owed, and how much that is; it is nobody if nothing is less than the debt.
func (p plainBook) extra(debt int) (day, least int) {
	day, least = nobody, debt
	for d := range p.Office.Days {
		for _, l := range p.all(d) {
			if owed := p.owed(l); owed < least {
				day, least = d, owed
			}
		}
	}
	return day, least
}

func anyGift(r *rand.Rand) api.FounderGift {
	return gift(r.Intn(2), r.Intn(5)-1, 1+r.Intn(4), 1+r.Intn(9)*(1+r.Intn(2)*r.Intn(11)))
}

// anySeason is one whose notes are all right, and the chief feasts that truly are.
func anySeason(r *rand.Rand) (api.OfficeBook, sungBy) {
	b := api.OfficeBook{Days: 1 + r.Intn(6), First: r.Intn(30)}
	for range r.Intn(5) {
		low := r.Intn(b.Days)
		b.Feasts = append(b.Feasts, feast(low, min(b.Days-1, low+r.Intn(4)*r.Intn(2)), r.Intn(4)))
	}
	for use := range b.Uses {
		b.Uses[use].Goes = r.Intn(2) == 0
		for range r.Intn(6) {
			b.Uses[use].Rules = append(b.Uses[use].Rules, rule(r.Intn(4), r.Intn(4), r.Intn(3)))
		}
	}
	truths := plainTruths(b)
	truth := truths[r.Intn(len(truths))]
	for range r.Intn(5) {
		b.Notes = append(b.Notes, anyNote(r, b, truth))
	}
	return b, truth
}

// anyNote is one that is right in a truth.
func anyNote(r *rand.Rand, b api.OfficeBook, truth sungBy) api.OfficeNote {
	use, day := r.Intn(2), r.Intn(b.Days)
	return note(use, day, truth[use][day])
}

func anyBook(r *rand.Rand) (api.FounderBook, sungBy) {
	season, truth := anySeason(r)
	b := api.FounderBook{Office: season}
	for range 1 + r.Intn(3) {
		b.Gifts = append(b.Gifts, anyGift(r))
	}
	return b, truth
}

func deep(b api.FounderBook) api.FounderBook {
	b.Office.Feasts, b.Office.Notes = slices.Clone(b.Office.Feasts), slices.Clone(b.Office.Notes)
	for use := range b.Office.Uses {
		b.Office.Uses[use].Rules = slices.Clone(b.Office.Uses[use].Rules)
	}
	b.Gifts = slices.Clone(b.Gifts)
	return b
}

// anyServices are often a plan, and often not.
func anyServices(r *rand.Rand, b api.FounderBook) []api.FounderSung {
	var l []api.FounderSung
	for day := -1; day <= b.Office.Days; day++ {
		for range r.Intn(3) * r.Intn(3) / 2 * r.Intn(2) {
			l = append(l, api.FounderSung{Day: day, Gift: r.Intn(4)})
		}
	}
	if r.Intn(5) > 0 {
		l = slices.DeleteFunc(l, func(s api.FounderSung) bool { return s.Day < 0 || s.Day == b.Office.Days || s.Gift >= len(b.Gifts) })
	}
	return l
}

func TestAgainstPlainPlans(t *testing.T) {
	r := rand.New(rand.NewSource(1))
	found := map[string]int{}
	for range 1500 {
		b, _ := anyBook(r)
		was, p := deep(b), newPlain(b, plainTruths(b.Office))
		testOpen(t, p)
		all := p.all(nobody)
		testAlone(t, p, all)
		found["plans"] += testMay(t, p, all, r)
		best := p.best(all)
		if l, e := founder.Plan(b); !slices.Equal(l, best) || e != api.OK {
			t.Fatalf("Plan %+v: %v, not %v, %d", b, l, best, e)
		}
		debt := p.owed(best)
		if n, e := founder.Debt(b); n != debt || e != api.OK {
			t.Fatalf("Debt %+v: %d, not %d, %d", b, n, debt, e)
		}
		first := slices.IndexFunc(p.owedTo(best), func(n int) bool { return n > 0 })
		if n, e := founder.First(b); !isNumber(n, e, first) {
			t.Fatalf("First %+v: %d, not %d, %d", b, n, first, e)
		}
		extra, _ := p.extra(debt)
		if n, e := founder.Extra(b); !isNumber(n, e, extra) {
			t.Fatalf("Extra %+v: %d, not %d, %d", b, n, extra, e)
		}
		if first > 0 {
			found["a later one is the first"]++
		}
		if extra > 0 {
			found["a later day helps most"]++
		}
		if !reflect.DeepEqual(b, was) {
			t.Fatalf("changed: %+v, was %+v", b, was)
		}
	}
	if len(found) < 3 || found["plans"] < 500 || found["a later one is the first"] < 100 || found["a later day helps most"] < 100 {
		t.Errorf("too few books of a kind: %v", found)
	}
}

func testOpen(t *testing.T, p plainBook) {
	t.Helper()
	for g := range p.Gifts {
		var want []int
		for day := range p.Office.Days {
			if p.open[day][g] {
				want = append(want, day)
			}
		}
		if l, e := founder.Open(p.FounderBook, g); !slices.Equal(l, want) || e != api.OK {
			t.Fatalf("Open %+v, %d: %v, not %v, %d", p.FounderBook, g, l, want, e)
		}
	}
	for day := range p.Office.Days {
		var want []int
		for g := range p.Gifts {
			if p.open[day][g] {
				want = append(want, g)
			}
		}
		if l, e := founder.Whose(p.FounderBook, day); !slices.Equal(l, want) || e != api.OK {
			t.Fatalf("Whose %+v, %d: %v, not %v, %d", p.FounderBook, day, l, want, e)
		}
	}
}

// testAlone looks at each plan for the most services.
func testAlone(t *testing.T, p plainBook, all [][]api.FounderSung) {
	t.Helper()
	var most [3]int
	for _, l := range all {
		var sung [3]int
		for _, s := range l {
			sung[s.Gift]++
			most[s.Gift] = max(most[s.Gift], sung[s.Gift])
		}
	}
	for g := range p.Gifts {
		if n, e := founder.Alone(p.FounderBook, g); n != most[g] || e != api.OK {
			t.Fatalf("Alone %+v, %d: %d, not %d, %d", p.FounderBook, g, n, most[g], e)
		}
	}
}

// testMay tests May and Owed, and returns how many services were plans.
func testMay(t *testing.T, p plainBook, all [][]api.FounderSung, r *rand.Rand) int {
	t.Helper()
	plans := 0
	for range 4 {
		l := anyServices(r, p.FounderBook)
		if r.Intn(3) == 0 {
			l = all[r.Intn(len(all))]
		}
		want := slices.ContainsFunc(all, func(one []api.FounderSung) bool { return slices.Equal(one, l) })
		if is, e := founder.May(p.FounderBook, l); is != want || e != api.OK {
			t.Fatalf("May %+v, %v: %v, %d", p.FounderBook, l, is, e)
		}
		for g := range p.Gifts {
			n, e := founder.Owed(p.FounderBook, l, g)
			if want && (n != p.owedTo(l)[g] || e != api.OK) || !want && (n != 0 || e != api.ErrFounderAsk) {
				t.Fatalf("Owed %+v, %v, %d: %d, %d", p.FounderBook, l, g, n, e)
			}
		}
		if want && len(l) > 0 {
			plans++
		}
	}
	return plans
}

// P9.8
func TestEachServiceIsSungOnce(t *testing.T) {
	r := rand.New(rand.NewSource(2))
	for range 1500 {
		b, truth := anyBook(r)
		l, e := founder.Plan(b)
		if e != api.OK {
			t.Fatalf("Plan %+v: %d", b, e)
		}
		var sung [3]int
		for i, s := range l {
			if i > 0 && l[i-1].Day >= s.Day {
				t.Fatalf("Plan %+v: %v: a day twice, or too late", b, l)
			}
			if chief := truth[b.Gifts[s.Gift].Use][s.Day]; !lets(b, s.Gift, chief) {
				t.Fatalf("Plan %+v: %v, but on the day %d is %d", b, l, s.Day, chief)
			}
			sung[s.Gift]++
		}
		for g, gift := range b.Gifts {
			if sung[g] > gift.Services {
				t.Fatalf("Plan %+v: %v: too many for %d", b, l, g)
			}
		}
	}
}

// P9.9
func TestTheLeastIsOwed(t *testing.T) {
	r := rand.New(rand.NewSource(3))
	for range 400 {
		b, _ := anyBook(r)
		best, _ := founder.Plan(b)
		debt, _ := founder.Debt(b)
		for range 30 {
			l := anyServices(r, b)
			if is, _ := founder.May(b, l); !is {
				continue
			}
			var pence []int
			for g := range b.Gifts {
				n, _ := founder.Owed(b, l, g)
				pence = append(pence, n)
			}
			if owed := total(pence); owed < debt || owed == debt && slices.CompareFunc(l, best, compareServices) < 0 {
				t.Fatalf("Plan %+v: %v, %d, but %v, %d", b, best, debt, l, owed)
			}
		}
	}
}

// P9.10
func TestWhatIsOwedAndSungFor(t *testing.T) {
	r := rand.New(rand.NewSource(4))
	for range 800 {
		b, _ := anyBook(r)
		l, _ := founder.Plan(b)
		debt, _ := founder.Debt(b)
		var owed []int
		left, sung := 0, 0
		for g, gift := range b.Gifts {
			left += gift.Services * gift.Pence
			n, _ := founder.Owed(b, l, g)
			owed = append(owed, n)
		}
		for _, s := range l {
			sung += b.Gifts[s.Gift].Pence
		}
		if debt+sung != left || total(owed) != debt {
			t.Fatalf("%+v: %d is owed (%v), %d sung for, %d left", b, debt, owed, sung, left)
		}
		for g := range b.Gifts {
			open, _ := founder.Open(b, g)
			alone, _ := founder.Alone(b, g)
			one := deep(b)
			one.Gifts = one.Gifts[g : g+1]
			if l, e := founder.Plan(one); len(l) != min(len(open), b.Gifts[g].Services) || len(l) != alone || e != api.OK {
				t.Fatalf("Plan %+v: %v, %d, but Alone %d", one, l, e, alone)
			}
		}
	}
}

// P9.11
func TestWhatOwesNoMore(t *testing.T) {
	r := rand.New(rand.NewSource(5))
	found := map[int]int{}
	for n := range 4500 {
		b, truth := anyBook(r)
		with, g := deep(b), r.Intn(len(b.Gifts))
		switch n % 3 {
		case 0:
			if len(b.Office.Notes) == api.OfficeNotes {
				continue
			}
			with.Office.Notes = append(with.Office.Notes, anyNote(r, b.Office, truth))
		case 1:
			with.Gifts[g].Upto = min(3, with.Gifts[g].Upto+1)
		case 2:
			with.Gifts[g].Services = max(1, with.Gifts[g].Services-1)
		}
		was, _ := founder.Debt(b)
		now, e := founder.Debt(with)
		if now > was || e != api.OK {
			t.Fatalf("Debt %+v: %d, %d, was %d", with, now, e, was)
		}
		if now < was {
			found[n%3]++
		}
		for g := range b.Gifts {
			was, _ := founder.Open(b, g)
			now, e := founder.Open(with, g)
			if e != api.OK || slices.ContainsFunc(was, func(day int) bool { return !slices.Contains(now, day) }) {
				t.Fatalf("Open %+v, %d: %v, %d, was %v", with, g, now, e, was)
			}
		}
	}
	if found[0] < 30 || found[1] < 100 || found[2] < 100 {
		t.Errorf("too few books of which less is owed: %v", found)
	}
}

// P9.12
func TestTheDayThatHelpsMost(t *testing.T) {
	r := rand.New(rand.NewSource(6))
	found := 0
	for range 600 {
		b, _ := anyBook(r)
		p := newPlain(b, plainTruths(b.Office))
		debt, _ := founder.Debt(b)
		day, e := founder.Extra(b)
		least := debt
		if e == api.OK {
			found++
			least = p.leastWith(day, debt)
			if least >= debt {
				t.Fatalf("Extra %+v: %d, but %d is not less than %d", b, day, least, debt)
			}
		}
		for d := range b.Office.Days {
			if owed := p.leastWith(d, debt); owed < least || owed == least && e == api.OK && d < day {
				t.Fatalf("Extra %+v: %d, %d, but on the day %d: %d", b, day, e, d, owed)
			}
		}
	}
	if found < 200 {
		t.Errorf("too few books that a second service helps: %d", found)
	}
}

// leastWith is the least that is owed with two services on a day, or the debt if that is less.
func (p plainBook) leastWith(day, debt int) int {
	for _, l := range p.all(day) {
		debt = min(debt, p.owed(l))
	}
	return debt
}

// P9.1 to P9.6: where the season cannot be true, that is the error of all that is asked.
func TestFalseBooks(t *testing.T) {
	r := rand.New(rand.NewSource(7))
	found := 0
	for range 1500 {
		b, _ := anyBook(r)
		for i := range b.Office.Notes {
			if r.Intn(2) == 0 {
				b.Office.Notes[i].Chief = r.Intn(len(b.Office.Feasts)+1) - 1
			}
		}
		wantE := api.OK
		if len(plainTruths(b.Office)) == 0 {
			wantE = api.ErrFounderFalse
			found++
		}
		_, c := founder.Open(b, 0)
		_, d := founder.Whose(b, 0)
		_, e := founder.May(b, plan(9, 9))
		_, f := founder.Owed(b, nil, 0)
		_, g := founder.Plan(b)
		_, h := founder.Debt(b)
		_, i := founder.Alone(b, 0)
		for k, e := range []api.Errno{c, d, e, f, g, h, i} {
			if e != wantE {
				t.Fatalf("call %d, %+v: %d", k, b, e)
			}
		}
		_, e = founder.First(b)
		_, f = founder.Extra(b)
		if is := e == api.ErrFounderFalse && f == e; is != (wantE != api.OK) {
			t.Fatalf("First, Extra %+v: %d, %d", b, e, f)
		}
		if right, _ := office.Right(b.Office); right != (wantE == api.OK) {
			t.Fatalf("Right %+v: %v", b.Office, right)
		}
	}
	if found < 150 {
		t.Errorf("too few false books: %d", found)
	}
}

// P9.3, P9.6: the greatest book is calculated with, too.
func TestTheGreatestBook(t *testing.T) {
	b := season(free(6), gift(0, 0, 4, 99), gift(1, 0, 4, 98), gift(0, 0, 4, 97))
	b.Office.Feasts = []api.OfficeFeast{feast(0, 3, 0), feast(1, 4, 0), feast(2, 5, 0), feast(2, 5, 0)}
	want := plan(0, 0, 1, 0, 2, 0, 3, 0, 4, 1, 5, 1)
	if l, e := founder.Plan(b); !slices.Equal(l, want) || e != api.OK {
		t.Errorf("Plan: %v, %d", l, e)
	}
	if n, e := founder.Debt(b); n != 2*98+4*97 || e != api.OK {
		t.Errorf("Debt: %d, %d", n, e)
	}
	if n, e := founder.Extra(b); n != 0 || e != api.OK {
		t.Errorf("Extra: %d, %d", n, e)
	}
}

// P1: any arguments, also such as are not valid, are answered without a panic, and the same way twice (P2).
func TestAnyArguments(t *testing.T) {
	r := rand.New(rand.NewSource(8))
	odd := func() int {
		return []int{-1 << 63, -2, -1, 0, 1, 2, 3, 4, 5, 6, 99, 100, 1<<63 - 1}[r.Intn(13)]
	}
	for range 1500 {
		b, _ := anyBook(r)
		for range r.Intn(3) {
			switch r.Intn(5) {
			case 0:
				b.Office.Days = odd()
			case 1:
				b.Office.Feasts = append(b.Office.Feasts, feast(odd(), odd(), odd()))
			case 2:
				b.Office.Notes = append(b.Office.Notes, note(odd(), odd(), odd()))
			case 3:
				b.Gifts[0] = gift(odd(), odd(), odd(), odd())
			case 4:
				b.Gifts = append(b.Gifts, gift(odd(), odd(), odd(), odd()))
			}
		}
		n, l := odd(), plan(0, 0, odd(), odd(), odd(), odd())[:r.Intn(4)]
		if !reflect.DeepEqual(everything(b, n, l), everything(b, n, l)) {
			t.Fatalf("%+v: not the same twice", b)
		}
	}
}

func everything(b api.FounderBook, n int, l []api.FounderSung) []any {
	results := []any{founder.Check(b)}
	add := func(l ...any) { results = append(results, l...) }
	days, e := founder.Open(b, n)
	add(days, e)
	gifts, e := founder.Whose(b, n)
	add(gifts, e)
	is, e := founder.May(b, l)
	add(is, e)
	pence, e := founder.Owed(b, l, n)
	add(pence, e)
	best, e := founder.Plan(b)
	add(best, e)
	for _, call := range []func(api.FounderBook) (int, api.Errno){founder.Debt, founder.First, founder.Extra} {
		n, e := call(b)
		add(n, e)
	}
	alone, e := founder.Alone(b, n)
	add(alone, e)
	return results
}
