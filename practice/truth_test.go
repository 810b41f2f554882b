package practice_test

// The functions against a second calculation, which goes through all lists of days, and sings each of them in all truths, and the properties P10.8 to P10.12, for many books.

import (
	"cmp"
	"math/rand"
	"reflect"
	"slices"
	"testing"

	"decani/api"
	"decani/practice"
)

// realCold is by bed the day on which its boy catches the cold, or 99, and how long the cold takes to come out.
type realCold struct {
	caught []int
	out    int
}

func isAway(b api.ColdBook, bed, day int) bool {
	return slices.ContainsFunc(b.Moves, func(m api.ColdMove) bool { return m.Bed == bed && m.Day <= day })
}

// spread lets the cold begin in a bed on a day, and go on day by day.
func spread(b api.ColdBook, bed, day, goes int) []int {
	caught := slices.Repeat([]int{99}, b.Beds)
	caught[bed] = day
	for d := day + 1; d < b.Days; d++ {
		for i := range caught {
			for by := max(0, i-1); by <= min(i+1, b.Beds-1); by++ {
				if by != i && caught[i] > d && caught[by] == d-goes && !isAway(b, i, d) && !isAway(b, by, d) {
					caught[i] = d
				}
			}
		}
	}
	return caught
}

func (r realCold) isRight(h api.ColdHeard) bool { return (r.caught[h.Bed]+r.out <= h.Day) == h.Cough }

// coldTruths are all truths of a dormitory.
func coldTruths(b api.ColdBook) []realCold {
	var truths []realCold
	for bed := range b.Beds {
		for day := 0; day <= b.Until; day++ {
			if b.Begins>>bed&1 == 0 || isAway(b, bed, day) {
				continue
			}
			for out := b.Takes[0].Low; out <= b.Takes[0].High; out++ {
				for goes := b.Takes[1].Low; goes <= b.Takes[1].High; goes++ {
					r := realCold{spread(b, bed, day, goes), out}
					if !slices.ContainsFunc(b.Heard, func(h api.ColdHeard) bool { return !r.isRight(h) }) {
						truths = append(truths, r)
					}
				}
			}
		}
	}
	return truths
}

// realStrain is how strong the singers are, what services cost, and what nights give back.
type realStrain struct {
	strong []int
	cost   [3]int
}

// strainTruths are all truths of a book of strength.
func strainTruths(b api.StrainBook) []realStrain {
	truths := []realStrain{{}}
	for i, s := range slices.Concat(b.Costs[:], b.Singers) {
		var more []realStrain
		for _, r := range truths {
			for n := s.Low; n <= s.High; n++ {
				if i < 3 {
					r.cost[i] = n
					more = append(more, r)
				} else {
					more = append(more, realStrain{append(slices.Clone(r.strong), n), r.cost})
				}
			}
		}
		truths = more
	}
	sings := singing(b)
	return slices.DeleteFunc(truths, func(r realStrain) bool {
		return slices.ContainsFunc(b.Signs, func(s api.StrainSign) bool {
			off := r.left(b, sings, s.Singer)[s.Day] - s.Left
			return max(off, -off) > s.Error
		})
	})
}

// singing is by day and singer whether this singer sings, by the fixed rests.
func singing(b api.StrainBook) [5][3]bool {
	var sings [5][3]bool
	for day := range b.Days {
		for singer := range b.Singers {
			sings[day][singer] = !slices.Contains(b.Rests, rest(day, singer))
		}
	}
	return sings
}

// left is what a singer has left at the end of all days.
func (r realStrain) left(b api.StrainBook, sings [5][3]bool, singer int) []int {
	var left []int
	has := r.strong[singer]
	for day, d := range b.Days {
		if sings[day][singer] {
			has -= d.Plain*r.cost[0] + d.Full*r.cost[1]
		}
		left = append(left, has)
		has = min(has+r.cost[2], r.strong[singer])
	}
	return left
}

// plainBook is a book, by day and singer who may have the cold, all that can be true of strength, and the first open day.
type plainBook struct {
	api.PracticeBook
	ill    [5][3]bool
	truths []realStrain
	open   int
}

func newPlain(b api.PracticeBook) plainBook {
	p := plainBook{PracticeBook: b, truths: strainTruths(b.Strain)}
	for _, r := range coldTruths(b.Cold) {
		for singer, bed := range b.Sleeps {
			for day := range b.Strain.Days {
				p.ill[day][singer] = p.ill[day][singer] || r.caught[bed] <= day
			}
		}
	}
	for _, s := range b.Strain.Signs {
		p.open = max(p.open, s.Day+1)
	}
	return p
}

// kept are all singers who are kept on a day.
func (p plainBook) kept(day int) []int {
	var l []int
	for singer, is := range p.ill[day] {
		if is {
			l = append(l, singer)
		}
	}
	return l
}

// isPlan holds rehearsals on these days, and sings all open days.
func (p plainBook) isPlan(l []int) bool {
	b, sings := p.Strain, singing(p.Strain)
	b.Days = slices.Clone(b.Days)
	for i, day := range l {
		if day == no {
			continue
		}
		r := p.Rehearsals[i]
		if day < max(r.From, p.open) || day > r.To || slices.Contains(l[:i], day) || b.Days[day].Plain == 2 {
			return false
		}
		b.Days[day].Plain++
		b.Days[day].Needs = max(b.Days[day].Needs, r.Wants)
		for _, singer := range p.kept(day) {
			sings[day][singer] = false
		}
	}
	for day := p.open; day < len(b.Days); day++ {
		if many(sings[day]) < b.Days[day].Needs || p.isHarm(b, sings, day) {
			return false
		}
	}
	return true
}

func many(sings [3]bool) int {
	n := 0
	for _, is := range sings {
		if is {
			n++
		}
	}
	return n
}

// isHarm reports whether a day does harm to somebody: it is a third full day, or less than 0 can be left.
func (p plainBook) isHarm(b api.StrainBook, sings [5][3]bool, day int) bool {
	for singer := range b.Singers {
		full := 0
		for d := max(0, day-2); d <= day; d++ {
			if sings[d][singer] && b.Days[d].Full > 0 {
				full++
			}
		}
		if full == 3 {
			return true
		}
		for _, r := range p.truths {
			if r.left(b, sings, singer)[day] < 0 {
				return true
			}
		}
	}
	return false
}

// all are all plans.
func (p plainBook) all() [][]int {
	lists := [][]int{nil}
	for range p.Rehearsals {
		var longer [][]int
		for _, l := range lists {
			for day := range p.Strain.Days {
				longer = append(longer, append(slices.Clone(l), day))
			}
			longer = append(longer, append(slices.Clone(l), no))
		}
		lists = longer
	}
	return slices.DeleteFunc(lists, func(l []int) bool { return !p.isPlan(l) })
}

// keeps is how many a plan keeps.
func (p plainBook) keeps(l []int) int {
	n := 0
	for _, day := range l {
		if day != no {
			n += len(p.kept(day))
		}
	}
	return n
}

// held is on how many days there is a rehearsal.
func held(l []int) int {
	return len(l) - len(slices.DeleteFunc(slices.Clone(l), func(day int) bool { return day != no }))
}

// compare orders plans, the better one first.
func (p plainBook) compare(one, other []int) int {
	return cmp.Or(held(other)-held(one), p.keeps(one)-p.keeps(other), slices.Compare(one, other))
}

// alone are all days on which a rehearsal is held in a plan that holds no other one.
func (p plainBook) alone(rehearsal int, all [][]int) []int {
	var days []int
	for _, l := range all {
		if held(l) == 1 && l[rehearsal] != no {
			days = append(days, l[rehearsal])
		}
	}
	slices.Sort(days)
	return days
}

// real is what truly is so, beside a book that is right about it.
type real struct {
	cold   realCold
	strain realStrain
}

func anyCold(r *rand.Rand, days int) (api.ColdBook, realCold) {
	b := api.ColdBook{Beds: 3 + r.Intn(3), Days: min(6, days+r.Intn(2))}
	b.Begins = 1 + r.Intn(1<<b.Beds-1)
	if r.Intn(3) > 0 {
		b.Begins = 1 << r.Intn(b.Beds)
	}
	b.Until = r.Intn(1 + b.Days/2)
	for kind := range b.Takes {
		low := 1 + r.Intn(3)
		b.Takes[kind] = span(low, min(3, low+r.Intn(2)))
	}
	for _, bed := range r.Perm(b.Beds)[:r.Intn(3)*r.Intn(2)] {
		if b.Days > 1 {
			b.Moves = append(b.Moves, api.ColdMove{Bed: bed, Day: 1 + r.Intn(b.Days-1)})
		}
	}
	truths := coldTruths(b)
	truth := truths[r.Intn(len(truths))]
	for range r.Intn(4) {
		b.Heard = append(b.Heard, anyHearing(r, b, truth))
	}
	return b, truth
}

// anyHearing is one that is right in a truth.
func anyHearing(r *rand.Rand, b api.ColdBook, truth realCold) api.ColdHeard {
	h := api.ColdHeard{Bed: r.Intn(b.Beds), Day: r.Intn(b.Days), Cough: true}
	h.Cough = truth.isRight(h)
	return h
}

func anyStrain(r *rand.Rand, singers int) (api.StrainBook, realStrain) {
	var b api.StrainBook
	for range singers {
		low := 3 + r.Intn(14)
		b.Singers = append(b.Singers, span(low, low+r.Intn(2)*r.Intn(3)))
	}
	for kind, most := range []int{4, 4, 6} {
		low := r.Intn(most)
		b.Costs[kind] = span(low, low+r.Intn(2))
	}
	for range 1 + r.Intn(5) {
		b.Days = append(b.Days, day(r.Intn(3)*r.Intn(2), r.Intn(2), r.Intn(singers+1)*r.Intn(2)*r.Intn(2)))
	}
	for range r.Intn(3) * r.Intn(2) {
		b.Rests = append(b.Rests, rest(r.Intn(len(b.Days)), r.Intn(singers)))
	}
	truths := strainTruths(b)
	truth := truths[r.Intn(len(truths))]
	for range r.Intn(3) * r.Intn(2) {
		b.Signs = append(b.Signs, anySign(r, b, truth, r.Intn(1+len(b.Days)/2)))
	}
	return b, truth
}

// anySign is one that is right in a truth.
func anySign(r *rand.Rand, b api.StrainBook, truth realStrain, day int) api.StrainSign {
	singer, wrong := r.Intn(len(b.Singers)), r.Intn(3)
	left := truth.left(b, singing(b), singer)[day]
	return sign(singer, day, min(30, left-wrong+r.Intn(2*wrong+1)), wrong)
}

func anyBook(r *rand.Rand) (api.PracticeBook, real) {
	strain, strainTruth := anyStrain(r, 1+r.Intn(3))
	days := len(strain.Days)
	cold, coldTruth := anyCold(r, days)
	b := api.PracticeBook{Cold: cold, Strain: strain, Sleeps: r.Perm(cold.Beds)[:len(strain.Singers)]}
	for range max(r.Intn(4), r.Intn(4)) {
		from := r.Intn(days)
		b.Rehearsals = append(b.Rehearsals, rehearsal(from, from+r.Intn(days-from), r.Intn(1+len(strain.Singers))))
	}
	return b, real{coldTruth, strainTruth}
}

// tight is a book in which only rehearsals cost strength, so much that few can be held, and more and more are kept from them.
func tight(r *rand.Rand, b api.PracticeBook) api.PracticeBook {
	b = deep(b)
	b.Strain.Costs = [3]api.Span{span(3, 3+r.Intn(2)), just(0), just(r.Intn(2))}
	for i := range b.Strain.Singers {
		b.Strain.Singers[i] = just(3 + r.Intn(6))
	}
	for i := range b.Strain.Days {
		b.Strain.Days[i] = day(0, 0, 0)
	}
	b.Strain.Signs = nil
	b.Cold.Begins, b.Cold.Until, b.Cold.Takes[api.ColdGoes], b.Cold.Heard = 1<<r.Intn(b.Cold.Beds), 0, just(1), nil
	for i := range b.Rehearsals {
		x := &b.Rehearsals[i]
		x.From, x.Wants = x.To-r.Intn(2)*r.Intn(x.To-x.From+1), r.Intn(2)
	}
	return b
}

// healthy is a book in which nobody may have the cold, which stays in a bed of its own.
func healthy(b api.PracticeBook) api.PracticeBook {
	b.Cold = api.ColdBook{Beds: 5, Days: 6, Begins: 0b10000, Takes: b.Cold.Takes, Moves: []api.ColdMove{{Bed: 3, Day: 1}}}
	b.Sleeps = []int{2, 3, 0}[:len(b.Sleeps)]
	return b
}

func deep(b api.PracticeBook) api.PracticeBook {
	b.Cold.Moves, b.Cold.Heard = slices.Clone(b.Cold.Moves), slices.Clone(b.Cold.Heard)
	b.Strain.Singers, b.Strain.Days = slices.Clone(b.Strain.Singers), slices.Clone(b.Strain.Days)
	b.Strain.Rests, b.Strain.Signs = slices.Clone(b.Strain.Rests), slices.Clone(b.Strain.Signs)
	b.Sleeps, b.Rehearsals = slices.Clone(b.Sleeps), slices.Clone(b.Rehearsals)
	return b
}

func TestAgainstPlainDays(t *testing.T) {
	r := rand.New(rand.NewSource(1))
	found := map[string]int{}
	for n := range 5000 {
		b, _ := anyBook(r)
		if n%2 == 0 {
			b = tight(r, b)
		}
		was, p := deep(b), newPlain(b)
		for day := range b.Strain.Days {
			if l, e := practice.Kept(b, day); !slices.Equal(l, p.kept(day)) || e != api.OK {
				t.Fatalf("Kept %+v, %d: %v, not %v, %d", b, day, l, p.kept(day), e)
			}
		}
		all := p.all()
		testAllAlone(t, p, all)
		for range 5 {
			testList(t, p, anyList(r, p, all), all)
		}
		l, e := practice.Plan(b)
		if len(all) == 0 {
			found["none"]++
			if len(l) != 0 || e != api.ErrNone {
				t.Fatalf("Plan %+v: %v, %d", b, l, e)
			}
			continue
		}
		best := slices.MinFunc(all, p.compare)
		if !slices.Equal(l, best) || e != api.OK {
			t.Fatalf("Plan %+v: %v, not %v, %d", b, l, best, e)
		}
		most := slices.DeleteFunc(slices.Clone(all), func(l []int) bool { return held(l) < held(best) })
		if held(best) > 1 && held(best) < len(b.Rehearsals) {
			found["some are not held"]++
		}
		if p.keeps(best) > 0 {
			found["some are kept"]++
		}
		if slices.Compare(best, slices.MinFunc(most, slices.Compare[[]int])) > 0 {
			found["fewer are kept than by the first one"]++
		}
		if !slices.ContainsFunc(all, func(l []int) bool { return held(l) == 0 }) {
			found["somebody must be kept"]++
		}
		if !reflect.DeepEqual(b, was) {
			t.Fatalf("changed: %+v, was %+v", b, was)
		}
	}
	for kind, n := range map[string]int{"none": 300, "some are not held": 60, "some are kept": 300, "fewer are kept than by the first one": 10, "somebody must be kept": 30} {
		if found[kind] < n {
			t.Errorf("too few books of a kind: %s, %d", kind, found[kind])
		}
	}
}

func testAllAlone(t *testing.T, p plainBook, all [][]int) {
	t.Helper()
	var never []int
	for i := range p.Rehearsals {
		days := p.alone(i, all)
		if l, e := practice.Alone(p.PracticeBook, i); !slices.Equal(l, days) || e != api.OK {
			t.Fatalf("Alone %+v, %d: %v, not %v, %d", p.PracticeBook, i, l, days, e)
		}
		if len(days) == 0 {
			never = append(never, i)
		}
	}
	if l, e := practice.Never(p.PracticeBook); !slices.Equal(l, never) || e != api.OK {
		t.Fatalf("Never %+v: %v, not %v, %d", p.PracticeBook, l, never, e)
	}
}

// anyList is often a plan, and often not.
func anyList(r *rand.Rand, p plainBook, all [][]int) []int {
	if len(all) > 0 && r.Intn(3) == 0 {
		return all[r.Intn(len(all))]
	}
	var l []int
	for _, x := range p.Rehearsals {
		l = append(l, []int{x.From, x.To, (x.From + x.To) / 2, no, no, r.Intn(11) - 1}[r.Intn(6)])
	}
	if r.Intn(8) == 0 {
		l = append(l, no)[:r.Intn(len(l)+2)]
	}
	return l
}

func testList(t *testing.T, p plainBook, l []int, all [][]int) {
	t.Helper()
	want := slices.ContainsFunc(all, func(one []int) bool { return slices.Equal(one, l) })
	if is, e := practice.May(p.PracticeBook, l); is != want || e != api.OK {
		t.Fatalf("May %+v, %v: %v, %d", p.PracticeBook, l, is, e)
	}
	n, e := practice.Keeps(p.PracticeBook, l)
	if want && (n != p.keeps(l) || e != api.OK) || !want && (n != 0 || e != api.ErrPracticeAsk) {
		t.Fatalf("Keeps %+v, %v: %d, %d", p.PracticeBook, l, n, e)
	}
}

// P10.8
func TestNobodyRehearsesBeyondStrength(t *testing.T) {
	r := rand.New(rand.NewSource(2))
	found := map[string]int{}
	for range 2500 {
		b, truth := anyBook(r)
		if right, e := practice.Right(b); !right || e != api.OK {
			t.Fatalf("Right %+v: %v, %d", b, right, e)
		}
		l, e := practice.Plan(b)
		if e != api.OK {
			continue
		}
		strained, sings := deep(b).Strain, singing(b.Strain)
		for i, day := range l {
			if day == no {
				continue
			}
			found["held"]++
			strained.Days[day].Plain++
			kept, _ := practice.Kept(b, day)
			for _, singer := range kept {
				sings[day][singer] = false
			}
			if many(sings[day]) < b.Rehearsals[i].Wants {
				t.Fatalf("Plan %+v: %v: too few come on the day %d", b, l, day)
			}
			for singer, bed := range b.Sleeps {
				if truth.cold.caught[bed] > day {
					continue
				}
				found["ill"]++
				if !slices.Contains(kept, singer) {
					t.Fatalf("Plan %+v: %v: the singer %d has the cold on the day %d", b, l, singer, day)
				}
			}
		}
		for singer := range b.Strain.Singers {
			left := truth.strain.left(strained, sings, singer)
			if slices.Min(append(left[newPlain(b).open:], 0)) < 0 {
				t.Fatalf("Plan %+v: %v: the singer %d has left %v", b, l, singer, left)
			}
		}
	}
	if found["held"] < 1000 || found["ill"] < 200 {
		t.Errorf("too few books of a kind: %v", found)
	}
}

// P10.9
func TestNoOtherPlanIsBetter(t *testing.T) {
	r := rand.New(rand.NewSource(3))
	found := 0
	for range 600 {
		b, _ := anyBook(r)
		best, e := practice.Plan(b)
		keeps, f := practice.Keeps(b, best)
		if e == api.OK && f != api.OK {
			t.Fatalf("Keeps %+v, %v: %d", b, best, f)
		}
		for range 40 {
			l := anyList(r, plainBook{PracticeBook: b}, nil)
			n, f := practice.Keeps(b, l)
			if f != api.OK {
				continue
			}
			found++
			if e != api.OK || cmp.Or(held(best)-held(l), n-keeps, slices.Compare(l, best)) < 0 {
				t.Fatalf("Plan %+v: %v, %d, %d, but %v, %d", b, best, keeps, e, l, n)
			}
		}
	}
	if found < 3000 {
		t.Errorf("too few plans: %d", found)
	}
}

// P10.10
func TestWhatCanNotBeHeldAlone(t *testing.T) {
	r := rand.New(rand.NewSource(4))
	found := map[string]int{}
	for range 4000 {
		b, _ := anyBook(r)
		for kind, b := range map[string]api.PracticeBook{"some are ill": b, "healthy": healthy(b)} {
			never, _ := practice.Never(b)
			best, e := practice.Plan(b)
			if e != api.OK {
				continue
			}
			for _, i := range never {
				found[kind]++
				if best[i] == no {
					continue
				}
				found["held, but not alone"]++
				if kind == "healthy" {
					t.Fatalf("Plan %+v: %v, but %d is held on no day", b, best, i)
				}
			}
			for range 10 {
				l := anyList(r, plainBook{PracticeBook: b}, nil)
				if is, _ := practice.May(b, l); !is || kind != "healthy" {
					continue
				}
				if slices.ContainsFunc(never, func(i int) bool { return l[i] != no }) {
					t.Fatalf("May %+v: %v, but %v are held on no day", b, l, never)
				}
			}
		}
	}
	if found["some are ill"] < 200 || found["healthy"] < 100 || found["held, but not alone"] < 20 {
		t.Errorf("too few books of a kind: %v", found)
	}
}

// P10.11
func TestWhoIsKept(t *testing.T) {
	r := rand.New(rand.NewSource(5))
	found := 0
	for range 800 {
		b, _ := anyBook(r)
		var before []int
		for day := range b.Strain.Days {
			l, e := practice.Kept(b, day)
			if e != api.OK || slices.ContainsFunc(before, func(singer int) bool { return !slices.Contains(l, singer) }) {
				t.Fatalf("Kept %+v, %d: %v, %d, before %v", b, day, l, e, before)
			}
			if day > 0 && len(l) > len(before) {
				found++
			}
			before = l
			if l, e := practice.Kept(healthy(b), day); len(l) != 0 || e != api.OK {
				t.Fatalf("Kept %+v, %d: %v, %d", healthy(b), day, l, e)
			}
		}
		if l, e := practice.Plan(healthy(b)); e == api.OK {
			if n, e := practice.Keeps(healthy(b), l); n != 0 || e != api.OK {
				t.Fatalf("Keeps %+v, %v: %d, %d", healthy(b), l, n, e)
			}
		}
	}
	if found < 200 {
		t.Errorf("too few books in which more are kept on a later day: %d", found)
	}
}

// P10.12
func TestWhatHoldsNoFewer(t *testing.T) {
	r := rand.New(rand.NewSource(6))
	found := map[string]int{}
	for range 5000 {
		b, _ := anyBook(r)
		was, e := practice.Plan(b)
		if e != api.OK || len(was) == 0 {
			continue
		}
		with, kind := deep(b), "wants"
		x := &with.Rehearsals[r.Intn(len(was))]
		switch r.Intn(3) {
		case 0:
			x.Wants = r.Intn(x.Wants + 1)
		case 1:
			x.From, kind = r.Intn(x.From+1), "from"
		case 2:
			x.To, kind = min(x.To+r.Intn(3), len(b.Strain.Days)-1), "to"
		}
		now, e := practice.Plan(with)
		if e != api.OK || held(now) < held(was) {
			t.Fatalf("Plan %+v: %v, %d, was %v", with, now, e, was)
		}
		if held(now) > held(was) {
			found[kind]++
		}
	}
	if found["wants"] < 15 || found["from"] < 15 || found["to"] < 15 {
		t.Errorf("too few books in which more are held: %v", found)
	}
}

// P10.1 to P10.6: where the cold or the strain cannot be true, that is the error of all that is asked.
func TestFalseBooks(t *testing.T) {
	r := rand.New(rand.NewSource(7))
	found := map[string]int{}
	for range 1500 {
		b, _ := anyBook(r)
		for i := range b.Cold.Heard {
			b.Cold.Heard[i].Cough = b.Cold.Heard[i].Cough != (r.Intn(6) == 0)
		}
		for i := range b.Strain.Signs {
			b.Strain.Signs[i].Left = min(30, b.Strain.Signs[i].Left+r.Intn(5))
		}
		isCold, isStrain := len(coldTruths(b.Cold)) > 0, len(strainTruths(b.Strain)) > 0
		if right, e := practice.Right(b); right != (isCold && isStrain) || e != api.OK {
			t.Fatalf("Right %+v: %v, %d", b, right, e)
		}
		if isCold && isStrain || len(b.Rehearsals) == 0 {
			continue
		}
		if !isCold {
			found["cold"]++
		}
		if !isStrain {
			found["strain"]++
		}
		none := slices.Repeat([]int{no}, len(b.Rehearsals))
		kept, c := practice.Kept(b, 0)
		may, d := practice.May(b, none)
		keeps, e := practice.Keeps(b, none)
		alone, f := practice.Alone(b, 0)
		plan, g := practice.Plan(b)
		never, h := practice.Never(b)
		for k, e := range []api.Errno{c, d, e, f, g, h} {
			if e != api.ErrPracticeFalse {
				t.Fatalf("call %d, %+v: %d", k, b, e)
			}
		}
		if may || keeps != 0 || len(kept)+len(alone)+len(plan)+len(never) != 0 {
			t.Fatalf("%+v: a result beside the error", b)
		}
	}
	if found["cold"] < 100 || found["strain"] < 100 {
		t.Errorf("too few false books: %v", found)
	}
}

// P10.5: the greatest book is calculated with, too.
func TestTheGreatestBook(t *testing.T) {
	b := api.PracticeBook{
		Cold: api.ColdBook{Beds: 5, Days: 6, Begins: 0b11111, Until: 5, Takes: [2]api.Span{span(2, 3), span(2, 3)}},
		Strain: api.StrainBook{
			Singers: []api.Span{span(28, 30), span(28, 30), span(28, 30)},
			Costs:   [3]api.Span{span(5, 6), span(5, 6), span(5, 6)},
			Days:    slices.Repeat([]api.StrainDay{day(1, 0, 0)}, 5),
		},
		Sleeps:     []int{4, 2, 0},
		Rehearsals: slices.Repeat([]api.PracticeRehearsal{rehearsal(0, 4, 0)}, 3),
	}
	if l, e := practice.Plan(b); !slices.Equal(l, []int{0, 1, 2}) || e != api.OK {
		t.Errorf("Plan: %v, %d", l, e)
	}
	if n, e := practice.Keeps(b, []int{4, 2, 0}); n != 9 || e != api.OK {
		t.Errorf("Keeps: %d, %d", n, e)
	}
	b.Rehearsals[0].Wants = 1
	if l, e := practice.Plan(b); !slices.Equal(l, []int{no, 0, 1}) || e != api.OK {
		t.Errorf("Plan: %v, %d", l, e)
	}
}

// P1: any arguments, also such as are not valid, are answered without a panic, and the same way twice (P2).
func TestAnyArguments(t *testing.T) {
	r := rand.New(rand.NewSource(8))
	odd := func() int {
		return []int{-1 << 63, -2, -1, 0, 1, 2, 3, 4, 5, 6, no, 30, 1<<63 - 1}[r.Intn(13)]
	}
	for range 2500 {
		b, _ := anyBook(r)
		for range r.Intn(3) {
			switch r.Intn(8) {
			case 0:
				b.Cold.Days = odd()
			case 1:
				b.Cold.Beds = odd()
			case 2:
				b.Cold.Heard = append(b.Cold.Heard, cough(odd(), odd()))
			case 3:
				b.Strain.Days[0] = day(odd(), odd(), odd())
			case 4:
				b.Strain.Signs = append(b.Strain.Signs, sign(odd(), odd(), odd(), odd()))
			case 5:
				b.Sleeps = append(b.Sleeps[1:], odd())
			case 6:
				b.Sleeps = append(b.Sleeps, odd())
			case 7:
				b.Rehearsals = append(b.Rehearsals, rehearsal(odd(), odd(), odd()))
			}
		}
		n, l := odd(), []int{odd(), odd(), odd(), odd()}[:r.Intn(5)]
		if !reflect.DeepEqual(everything(b, n, l), everything(b, n, l)) {
			t.Fatalf("%+v: not the same twice", b)
		}
	}
}

func everything(b api.PracticeBook, n int, l []int) []any {
	results := []any{practice.Check(b)}
	add := func(l ...any) { results = append(results, l...) }
	right, e := practice.Right(b)
	add(right, e)
	kept, e := practice.Kept(b, n)
	add(kept, e)
	may, e := practice.May(b, l)
	add(may, e)
	keeps, e := practice.Keeps(b, l)
	add(keeps, e)
	alone, e := practice.Alone(b, n)
	add(alone, e)
	plan, e := practice.Plan(b)
	add(plan, e)
	never, e := practice.Never(b)
	add(never, e)
	return results
}
