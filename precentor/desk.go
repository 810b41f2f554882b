package precentor

import (
	"strconv"
	"strings"

	"decani/api"
)

// kept is what a precentor keeps.
type kept struct {
	books
	names   []string
	journal []string
}

// A line that is an error is left by a panic with one of these, which says which line it was.
type (
	noLine     struct{}  // a text that is none
	stranger   struct{}  // a line with a name that no boy has
	untold     api.Errno // a line that would tell something
	unanswered api.Errno // a line that asks
)

// errorOf returns the error of a line that was left by a panic with this value.
func errorOf(left any) api.Errno {
	switch why := left.(type) {
	case noLine:
		return api.ErrPrecentorLine
	case stranger:
		return api.ErrPrecentorUnknown
	case untold:
		return api.Errno(why)
	case unanswered:
		if api.Errno(why) == api.ErrNone {
			return api.ErrNone
		}
	}
	// A layer returned, or met, any other error.
	return api.ErrRange
}

// do returns what is kept after a line, and the answer to it.
func (k kept) do(line string) (kept, string) {
	f, parts := formOf(line, k.part.Notes)
	if f.isTelling() && len(k.journal) >= api.PrecentorJournal {
		panic(untold(api.ErrFull))
	}
	s := k.read(f, parts)
	if f.isTelling() {
		k.books = telling{f, layers()[f.kind], k.books, s}.letIn()
		k.journal = with(k.journal, strings.Clone(line))
	}
	answer, e := f.asks(k.books, s)
	if e != api.OK {
		panic(unanswered(e))
	}
	return k, answer
}

// read returns what the parts of a line say.
func (k kept) read(f form, parts []string) said {
	s := said{boy: nobody}
	if f.isNamed() {
		s.boy = k.boy(parts[0])
		if s.boy == nobody {
			panic(stranger{})
		}
		parts = parts[1:]
	}
	for _, part := range parts {
		n, _ := strconv.Atoi(part)
		s.numbers = append(s.numbers, n)
	}
	return s
}

func (k kept) boy(name string) boy {
	found := nobody
	for number, n := range k.names {
		if n == name {
			found = boy{n, number}
		}
	}
	return found
}

// telling is what a line tells to the books of a precentor.
type telling struct {
	form
	layer
	books
	said said
}

// letIn returns the books with what is told; a line that must be refused is left.
func (t telling) letIn() books {
	for _, must := range [...]struct {
		hold func() bool
		e    api.Errno
	}{
		{t.isValid, api.ErrRange},
		{t.hasRoom, api.ErrFull},
		{t.canBeTrue, api.ErrPrecentorFalse},
	} {
		if !must.hold() {
			panic(untold(must.e))
		}
	}
	return t.besides()
}

// alone returns the books in which nothing else was told.
func (t telling) alone() books { return t.tells(t.bare(), t.said) }

// besides returns the books in which it was told after all others.
func (t telling) besides() books { return t.tells(t.books, t.said) }

func (t telling) isValid() bool { return t.check(t.alone()) == api.OK }

func (t telling) hasRoom() bool { return t.told()[t.kind] < t.most }

func (t telling) canBeTrue() bool {
	right, _ := t.right(t.besides())
	return right
}
