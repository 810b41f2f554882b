package strain_test

// The functions against a second calculation, which adds up what is lost instead of what is left, and the properties P4.10 to P4.14, for many books.

import (
	"cmp"
	"math/rand"
	"reflect"
	"slices"
	"testing"

	"decani/api"
	"decani/strain"
)

// real is what is so: how strong the singers are, what services cost, and what nights give back.
type real struct {
	strong []int
	cost   [3]int
}

// plainAll goes through all costs, and then counts through all strengths.
func plainAll(b api.StrainBook) []real {
	var all []real
	for plain := b.Costs[0].Low; plain <= b.Costs[0].High; plain++ {
		for full := b.Costs[1].Low; full <= b.Costs[1].High; full++ {
			for night := b.Costs[2].Low; night <= b.Costs[2].High; night++ {
				for _, strong := range plainStrengths(b.Singers) {
					all = append(all, real{strong, [3]int{plain, full, night}})
				}
			}
		}
	}
	return all
}

func plainStrengths(l []api.Span) [][]int {
	if len(l) == 0 {
		return [][]int{nil}
	}
	var all [][]int
	for _, strong := range plainStrengths(l[1:]) {
		for n := l[0].Low; n <= l[0].High; n++ {
			all = append(all, append([]int{n}, strong...))
		}
	}
	return all
}

// plainLeft are what a singer has left on all days.
func (r real) plainLeft(b api.StrainBook, more []api.StrainRest, singer int) []int {
	var left []int
	lost := 0
	for day, d := range b.Days {
		if day > 0 {
			lost = max(0, lost-r.cost[2])
		}
		if !plainRests(b, more, day, singer) {
			lost += d.Plain*r.cost[0] + d.Full*r.cost[1]
		}
		left = append(left, r.strong[singer]-lost)
	}
	return left
}

func plainRests(b api.StrainBook, more []api.StrainRest, day, singer int) bool {
	rest := api.StrainRest{Day: day, Singer: singer}
	return slices.Contains(b.Rests, rest) || slices.Contains(more, rest)
}

func (r real) plainRight(b api.StrainBook, s api.StrainSign) bool {
	left := r.plainLeft(b, nil, s.Singer)[s.Day]
	return s.Left-s.Error <= left && left <= s.Left+s.Error
}

// plainTruths are all that can be so if those signs are right that are not left out.
func plainTruths(b api.StrainBook, out []int) []real {
	var truths []real
	for _, r := range plainAll(b) {
		right := true
		for i, s := range b.Signs {
			right = right && (slices.Contains(out, i) || r.plainRight(b, s))
		}
		if right {
			truths = append(truths, r)
		}
	}
	return truths
}

// members are the numbers of a set.
func members(set int) []int {
	var l []int
	for i := 0; set>>i > 0; i++ {
		if set>>i&1 == 1 {
			l = append(l, i)
		}
	}
	return l
}

// plainWrong goes through all sets of signs.
func plainWrong(b api.StrainBook) []int {
	best := []int{0, 1, 2, 3, 4}
	for set := range 1 << len(b.Signs) {
		out := members(set)
		sooner := len(out) < len(best) || len(out) == len(best) && slices.Compare(out, best) < 0
		if sooner && plainTruths(b, out) != nil {
			best = out
		}
	}
	return best
}

func plainOpen(b api.StrainBook) int {
	open := 0
	for _, s := range b.Signs {
		if s.Day >= open {
			open = s.Day + 1
		}
	}
	return open
}

// plainThird reports whether a day is a third full day for a singer.
func plainThird(b api.StrainBook, more []api.StrainRest, day, singer int) bool {
	for d := day - 2; d <= day; d++ {
		if d < 0 || b.Days[d].Full == 0 || plainRests(b, more, d, singer) {
			return false
		}
	}
	return true
}

// plainFirst is the first day, not before another one, on which something is wrong with a singer; 9 if there is none.
func plainFirst(b api.StrainBook, truths []real, more []api.StrainRest, singer, from int, third bool) int {
	for day := from; day < len(b.Days); day++ {
		if third && plainThird(b, more, day, singer) {
			return day
		}
		for _, r := range truths {
			if r.plainLeft(b, more, singer)[day] < 0 {
				return day
			}
		}
	}
	return 9
}

func plainSafe(b api.StrainBook, truths []real, more []api.StrainRest) bool {
	open := plainOpen(b)
	for day := open; day < len(b.Days); day++ {
		sing := 0
		for singer := range b.Singers {
			if !plainRests(b, more, day, singer) {
				sing++
			}
		}
		if sing < b.Days[day].Needs {
			return false
		}
	}
	for singer := range b.Singers {
		if plainFirst(b, truths, more, singer, open, true) != 9 {
			return false
		}
	}
	return true
}

// plainPlaces are all rests that a plan can have.
func plainPlaces(b api.StrainBook) []api.StrainRest {
	var places []api.StrainRest
	for day := plainOpen(b); day < len(b.Days); day++ {
		for singer := range b.Singers {
			if !plainRests(b, nil, day, singer) {
				places = append(places, api.StrainRest{Day: day, Singer: singer})
			}
		}
	}
	return places
}

// plainPlans are all plans, the better ones first.
func plainPlans(b api.StrainBook) [][]api.StrainRest {
	places := plainPlaces(b)
	var plans [][]api.StrainRest
	for set := range 1 << len(places) {
		var l []api.StrainRest
		for _, i := range members(set) {
			l = append(l, places[i])
		}
		plans = append(plans, l)
	}
	slices.SortFunc(plans, func(one, other []api.StrainRest) int {
		if len(one) != len(other) {
			return cmp.Compare(len(one), len(other))
		}
		return slices.CompareFunc(one, other, func(r, s api.StrainRest) int {
			return cmp.Compare(10*r.Day+r.Singer, 10*s.Day+s.Singer)
		})
	})
	return plans
}

func plainPlan(b api.StrainBook, truths []real) ([]api.StrainRest, api.Errno) {
	for _, l := range plainPlans(b) {
		if plainSafe(b, truths, l) {
			return l, api.OK
		}
	}
	return nil, api.ErrNone
}

func anySpan(r *rand.Rand, most, apart int) api.Span {
	low := r.Intn(most + 1)
	return span(low, min(most, low+r.Intn(apart+1)))
}

func anySign(r *rand.Rand, b api.StrainBook) api.StrainSign {
	return sign(r.Intn(len(b.Singers)), r.Intn(len(b.Days)), r.Intn(40)-9, r.Intn(4))
}

// anyBook has so many singers and days at most.
func anyBook(r *rand.Rand, singers, days int) api.StrainBook {
	var b api.StrainBook
	strength := []int{6, 15, 30}[r.Intn(3)]
	for range 1 + r.Intn(singers) {
		b.Singers = append(b.Singers, anySpan(r, strength, api.StrainWide))
	}
	for kind, most := range []int{r.Intn(7), r.Intn(7), r.Intn(7)} {
		b.Costs[kind] = anySpan(r, most, api.StrainLean)
	}
	needs := r.Intn(len(b.Singers) + 1)
	for range 1 + r.Intn(days) {
		b.Days = append(b.Days, day(r.Intn(3), r.Intn(3), r.Intn(needs+1)))
	}
	for range r.Intn(4) {
		b.Rests = append(b.Rests, api.StrainRest{Day: r.Intn(len(b.Days)), Singer: r.Intn(len(b.Singers))})
	}
	for range max(0, r.Intn(7)-2) {
		b.Signs = append(b.Signs, anySign(r, b))
	}
	return b
}

// rightly tells only signs that are right in a truth of the book, if they can be told.
func rightly(b api.StrainBook, r *rand.Rand) (api.StrainBook, real) {
	all := plainAll(b)
	truth := all[r.Intn(len(all))]
	var l []api.StrainSign
	for _, s := range b.Signs {
		s.Left = truth.plainLeft(b, nil, s.Singer)[s.Day] + r.Intn(2*s.Error+1) - s.Error
		if within(s.Left, span(api.StrainLeast, api.StrainStrength)) {
			l = append(l, s)
		}
	}
	b.Signs = l
	return b, truth
}

func within(n int, s api.Span) bool { return s.Low <= n && n <= s.High }

func deep(b api.StrainBook) api.StrainBook {
	b.Singers, b.Days = slices.Clone(b.Singers), slices.Clone(b.Days)
	b.Rests, b.Signs = slices.Clone(b.Rests), slices.Clone(b.Signs)
	return b
}

func TestAgainstPlainTruths(t *testing.T) {
	r := rand.New(rand.NewSource(1))
	for n := range 1500 {
		b := anyBook(r, 1+n%3, []int{5, 4, 3}[n%3])
		if r.Intn(4) > 0 {
			b, _ = rightly(b, r)
		}
		was := deep(b)
		truths := plainTruths(b, nil)
		if is, e := strain.Right(b); is != (truths != nil) || e != api.OK {
			t.Fatalf("Right %+v: %v, %d", b, is, e)
		}
		if l, e := strain.Wrong(b); !slices.Equal(l, plainWrong(b)) || e != api.OK {
			t.Fatalf("Wrong %+v: %v, %d", b, l, e)
		}
		if truths == nil {
			testFalse(t, b)
		} else {
			testEnds(t, b, truths)
			testFirst(t, b, truths)
			testPlans(t, b, truths, r)
			testSigns(t, b, truths, r)
		}
		if !reflect.DeepEqual(b, was) {
			t.Fatalf("changed: %+v, was %+v", b, was)
		}
	}
}

func testFalse(t *testing.T, b api.StrainBook) {
	t.Helper()
	_, c := strain.Left(b, 0, 0)
	_, d := strain.Costs(b, 0)
	_, e := strain.Beyond(b, 0)
	_, _, f := strain.First(b)
	_, g := strain.Safe(b, nil)
	_, h := strain.Plan(b)
	_, i := strain.Fits(b, sign(0, 0, 0, 0))
	for k, e := range []api.Errno{c, d, e, f, g, h, i} {
		if e != api.ErrStrainFalse {
			t.Fatalf("call %d, %+v: %d", k, b, e)
		}
	}
	if is, e := strain.May(b, nil); !is || e != api.OK {
		t.Fatalf("May %+v: %v, %d", b, is, e)
	}
}

// ends are the least and the greatest number of some.
func ends(truths []real, number func(r real) int) api.Span {
	var l []int
	for _, r := range truths {
		l = append(l, number(r))
	}
	return span(slices.Min(l), slices.Max(l))
}

func testEnds(t *testing.T, b api.StrainBook, truths []real) {
	t.Helper()
	for kind := range 3 {
		want := ends(truths, func(r real) int { return r.cost[kind] })
		if s, e := strain.Costs(b, kind); s != want || e != api.OK {
			t.Fatalf("Costs %+v, %d: %v, %d", b, kind, s, e)
		}
	}
	for singer := range b.Singers {
		for day := range b.Days {
			want := ends(truths, func(r real) int { return r.plainLeft(b, nil, singer)[day] })
			if s, e := strain.Left(b, singer, day); s != want || e != api.OK {
				t.Fatalf("Left %+v, %d, %d: %v, %d", b, singer, day, s, e)
			}
		}
	}
}

func testFirst(t *testing.T, b api.StrainBook, truths []real) {
	t.Helper()
	first, who := 9, 0
	for singer := range b.Singers {
		want, wantE := plainFirst(b, truths, nil, singer, 0, false), api.OK
		if want == 9 {
			want, wantE = 0, api.ErrNone
		}
		if day, e := strain.Beyond(b, singer); day != want || e != wantE {
			t.Fatalf("Beyond %+v, %d: %d, %d", b, singer, day, e)
		}
		if day := plainFirst(b, truths, nil, singer, plainOpen(b), true); day < first {
			first, who = day, singer
		}
	}
	wantE := api.OK
	if first == 9 {
		first, who, wantE = 0, 0, api.ErrNone
	}
	if day, singer, e := strain.First(b); day != first || singer != who || e != wantE {
		t.Fatalf("First %+v: %d, %d, %d", b, day, singer, e)
	}
}

func testPlans(t *testing.T, b api.StrainBook, truths []real, r *rand.Rand) {
	t.Helper()
	want, wantE := plainPlan(b, truths)
	if l, e := strain.Plan(b); !slices.Equal(l, want) || e != wantE {
		t.Fatalf("Plan %+v: %v, %d; %v, %d", b, l, e, want, wantE)
	}
	plans := plainPlans(b)
	for range 20 {
		l := plans[r.Intn(len(plans))]
		if is, e := strain.May(b, l); !is || e != api.OK {
			t.Fatalf("May %+v, %v: %v, %d", b, l, is, e)
		}
		if is, e := strain.Safe(b, l); is != plainSafe(b, truths, l) || e != api.OK {
			t.Fatalf("Safe %+v, %v: %v, %d", b, l, is, e)
		}
		odd := slices.Clone(l)
		odd = append(odd, api.StrainRest{Day: r.Intn(7) - 1, Singer: r.Intn(5) - 1})
		may := slices.ContainsFunc(plans, func(l []api.StrainRest) bool { return slices.Equal(l, odd) })
		if is, e := strain.May(b, odd); is != may || e != api.OK {
			t.Fatalf("May %+v, %v: %v, %d", b, odd, is, e)
		}
		if _, e := strain.Safe(b, odd); (e == api.ErrStrainAsk) == may {
			t.Fatalf("Safe %+v, %v: %d", b, odd, e)
		}
	}
}

func testSigns(t *testing.T, b api.StrainBook, truths []real, r *rand.Rand) {
	t.Helper()
	for range 20 {
		s := anySign(r, b)
		want := slices.ContainsFunc(truths, func(r real) bool { return r.plainRight(b, s) })
		if is, e := strain.Fits(b, s); is != want || e != api.OK {
			t.Fatalf("Fits %+v, %+v: %v, %d", b, s, is, e)
		}
	}
}

// P4.10
func TestNobodySingsBeyondStrength(t *testing.T) {
	r := rand.New(rand.NewSource(2))
	for range 1500 {
		b, truth := rightly(anyBook(r, 3, 5), r)
		if is, e := strain.Right(b); !is || e != api.OK {
			t.Fatalf("Right %+v: %v, %d", b, is, e)
		}
		if l, e := strain.Wrong(b); len(l) > 0 || e != api.OK {
			t.Fatalf("Wrong %+v: %v, %d", b, l, e)
		}
		for kind, n := range truth.cost {
			if s, e := strain.Costs(b, kind); !within(n, s) || e != api.OK {
				t.Fatalf("Costs %+v, %d: %v, %d", b, kind, s, e)
			}
		}
		l, e := strain.Plan(b)
		for singer := range b.Singers {
			left := truth.plainLeft(b, nil, singer)
			rested := truth.plainLeft(b, l, singer)
			for day := range b.Days {
				if s, e := strain.Left(b, singer, day); !within(left[day], s) || e != api.OK {
					t.Fatalf("Left %+v, %d, %d: %v, %d", b, singer, day, s, e)
				}
				if e == api.OK && day >= plainOpen(b) && (rested[day] < 0 || plainThird(b, l, day, singer)) {
					t.Fatalf("Plan %+v: %v, but %d on %d", b, l, singer, day)
				}
			}
		}
	}
}

// P4.11
func TestTheFewestRests(t *testing.T) {
	r := rand.New(rand.NewSource(3))
	for n := range 600 {
		b, _ := rightly(anyBook(r, 1+n%3, []int{5, 4, 3}[n%3]), r)
		l, e := strain.Plan(b)
		if e != api.OK && e != api.ErrNone {
			t.Fatalf("Plan %+v: %d", b, e)
		}
		for _, other := range plainPlans(b) {
			is, _ := strain.Safe(b, other)
			same := e == api.OK && slices.Equal(l, other)
			if is != same {
				t.Fatalf("Plan %+v: %v, but %v: %v", b, l, other, is)
			}
			if same {
				break
			}
		}
		for i := range l {
			if is, _ := strain.Safe(b, slices.Delete(slices.Clone(l), i, i+1)); is {
				t.Fatalf("Plan %+v: %v, also without %d", b, l, i)
			}
		}
		if is, _ := strain.Safe(b, nil); is != (e == api.OK && len(l) == 0) {
			t.Fatalf("Plan %+v: %v, %d, and none is %v", b, l, e, is)
		}
	}
}

// P4.11: all days of all singers can be in a plan.
func TestLongPlans(t *testing.T) {
	r := rand.New(rand.NewSource(4))
	for range 15 {
		b := anyBook(r, 3, 5)
		b.Signs, b.Rests = nil, nil
		for len(b.Singers) < api.StrainSingers {
			b.Singers = append(b.Singers, anySpan(r, api.StrainStrength, api.StrainWide))
		}
		for len(b.Days) < api.StrainDays {
			b.Days = append(b.Days, day(r.Intn(3), r.Intn(3), r.Intn(3)))
		}
		l, e := strain.Plan(b)
		truths := plainTruths(b, nil)
		if e == api.OK && !plainSafe(b, truths, l) {
			t.Fatalf("Plan %+v: %v", b, l)
		}
		for _, other := range plainPlans(b) {
			if e == api.OK && len(other) > min(len(l), 3) || len(other) > 3 {
				break
			}
			if e == api.OK && slices.Equal(other, l) {
				break
			}
			if plainSafe(b, truths, other) {
				t.Fatalf("Plan %+v: %v, %d, but %v", b, l, e, other)
			}
		}
	}
}

// P4.12
func TestBothEndsCanBeRead(t *testing.T) {
	r := rand.New(rand.NewSource(5))
	for range 500 {
		b, _ := rightly(anyBook(r, 3, 5), r)
		for singer := range b.Singers {
			for day := range b.Days {
				s, _ := strain.Left(b, singer, day)
				for left, want := range map[int]bool{s.Low: true, s.High: true, s.Low - 1: false, s.High + 1: false} {
					if left > api.StrainStrength {
						continue
					}
					if is, e := strain.Fits(b, sign(singer, day, left, 0)); is != want || e != api.OK {
						t.Fatalf("Fits %+v, %d, %d, %d: %v, %d", b, singer, day, left, is, e)
					}
				}
			}
		}
	}
}

// P4.13
func TestOneSignMore(t *testing.T) {
	r := rand.New(rand.NewSource(6))
	for range 2000 {
		b, truth := rightly(anyBook(r, 3, 5), r)
		b.Signs = b.Signs[:min(len(b.Signs), 3)]
		s := anySign(r, b)
		s.Left = truth.plainLeft(b, nil, s.Singer)[s.Day]
		more := deep(b)
		more.Signs = append(more.Signs, s)
		for kind := range 3 {
			wide, _ := strain.Costs(b, kind)
			if s, e := strain.Costs(more, kind); e != api.OK || !within(s.Low, wide) || !within(s.High, wide) {
				t.Fatalf("Costs %+v, %d: %v, %d", more, kind, s, e)
			}
		}
		for singer := range b.Singers {
			for day := range b.Days {
				wide, _ := strain.Left(b, singer, day)
				if s, e := strain.Left(more, singer, day); e != api.OK || !within(s.Low, wide) || !within(s.High, wide) {
					t.Fatalf("Left %+v, %d, %d: %v, %d", more, singer, day, s, e)
				}
			}
		}
	}
}

// P4.13: without signs, which would be others then.
func TestOneRestMore(t *testing.T) {
	r := rand.New(rand.NewSource(7))
	for range 1000 {
		b := anyBook(r, 3, 5)
		b.Signs = nil
		more := deep(b)
		more.Rests = append(more.Rests, api.StrainRest{Day: r.Intn(len(b.Days)), Singer: r.Intn(len(b.Singers))})
		for singer := range b.Singers {
			for day := range b.Days {
				was, _ := strain.Left(b, singer, day)
				if s, e := strain.Left(more, singer, day); e != api.OK || s.Low < was.Low || s.High < was.High {
					t.Fatalf("Left %+v, %d, %d: %v, was %v, %d", more, singer, day, s, was, e)
				}
			}
		}
	}
}

// P4.14
func TestSignsThatMustBeWrong(t *testing.T) {
	r := rand.New(rand.NewSource(8))
	for range 1000 {
		b := anyBook(r, 3, 5)
		wrong, e := strain.Wrong(b)
		if e != api.OK {
			t.Fatalf("Wrong %+v: %d", b, e)
		}
		for set := range 1 << len(b.Signs) {
			some, out := deep(b), members(set)
			some.Signs = nil
			for i, s := range b.Signs {
				if !slices.Contains(out, i) {
					some.Signs = append(some.Signs, s)
				}
			}
			is, _ := strain.Right(some)
			if slices.Equal(out, wrong) && !is || len(out) < len(wrong) && is {
				t.Fatalf("Wrong %+v: %v, but without %v: %v", b, wrong, out, is)
			}
		}
	}
}

// P1: any arguments, also such as are not valid, are answered without a panic, and the same way twice (P2).
func TestAnyArguments(t *testing.T) {
	r := rand.New(rand.NewSource(9))
	odd := func() int {
		return []int{-1 << 63, -151, -150, -2, -1, 0, 1, 2, 3, 4, 5, 6, 30, 31, 63, 1<<63 - 1}[r.Intn(16)]
	}
	for range 3000 {
		b := anyBook(r, 3, 5)
		for range r.Intn(3) {
			switch n := r.Intn(6); {
			case n == 0:
				b.Singers = append(b.Singers, span(odd(), odd()))
			case n == 1:
				b.Costs[r.Intn(3)] = span(odd(), odd())
			case n == 2:
				b.Days = append(b.Days, day(odd(), odd(), odd()))
			case n == 3:
				b.Days = b.Days[:r.Intn(len(b.Days)+1)]
			case n == 4 && len(b.Rests) > 0:
				b.Rests[0] = api.StrainRest{Day: odd(), Singer: odd()}
			case len(b.Signs) > 0:
				b.Signs[0] = sign(odd(), odd(), odd(), odd())
			}
		}
		singer, day, kind, s, l := odd(), odd(), odd(), sign(odd(), odd(), odd(), odd()), plan(odd(), odd(), odd(), odd())
		if !reflect.DeepEqual(everything(b, singer, day, kind, s, l), everything(b, singer, day, kind, s, l)) {
			t.Fatalf("%+v: not the same twice", b)
		}
	}
}

func everything(b api.StrainBook, singer, day, kind int, s api.StrainSign, l []api.StrainRest) []any {
	results := []any{strain.Check(b)}
	add := func(l ...any) { results = append(results, l...) }
	is, e := strain.Right(b)
	add(is, e)
	ends, e := strain.Left(b, singer, day)
	add(ends, e)
	ends, e = strain.Costs(b, kind)
	add(ends, e)
	n, e := strain.Beyond(b, singer)
	add(n, e)
	n, who, e := strain.First(b)
	add(n, who, e)
	is, e = strain.May(b, l)
	add(is, e)
	is, e = strain.Safe(b, l)
	add(is, e)
	best, e := strain.Plan(b)
	add(best, e)
	is, e = strain.Fits(b, s)
	add(is, e)
	wrong, e := strain.Wrong(b)
	add(wrong, e)
	return results
}
