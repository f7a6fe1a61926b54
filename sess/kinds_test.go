package sess_test

import (
	"fmt"
	"math"
	"slices"

	"tenancy/api"
	"tenancy/sess"
)

// The limits, as the tests count on them.
const (
	clients = 3
	retry   = 10
	most    = math.MaxInt
	least   = math.MinInt
)

// How it is judged, as the tests count on it.
const (
	stale = 1
	old   = 2
	again = 3
	fresh = 4
)

// dice is a row of numbers by a rule that mixes them, the same each time (splitmix64).
type dice uint64

func (d *dice) below(n int) int {
	*d += 0x9e3779b97f4a7c15
	x := uint64(*d)
	x = (x ^ x>>30) * 0xbf58476d1ce4e5b9
	x = (x ^ x>>27) * 0x94d049bb133111eb
	return int((x ^ x>>31) % uint64(n))
}

func (d *dice) of(l ...int) int { return l[d.below(len(l))] }

// far is a number of all kinds.
func (d *dice) far() int {
	return d.of(least, least+1, -1<<32, -1, 0, 1, 2, 3, 6, 7, api.MaxNum, api.MaxNum+1, 1<<32+2, most-1, most)
}

// tell is one of all kinds with this number.
func (d *dice) tell(seq int) api.Tell {
	return api.Tell{Kind: d.far(), To: d.far(), Epoch: d.far(), Seq: seq, Err: api.Errno(d.far()), File: d.far(), Mode: d.far(), Ver: d.far(), Body: []string{"", "x", "a body that is told"}[d.below(3)]}
}

// mark is one of all kinds with this number.
func (d *dice) mark(seq int) api.Mark {
	return api.Mark{Seq: seq, Err: api.Errno(d.far()), File: d.far(), Ver: d.far()}
}

// verdict is what Judge tells.
type verdict struct {
	kind int
	t    api.Tell
}

func (v verdict) String() string { return fmt.Sprintf("%d %+v", v.kind, v.t) }

// book is what there is known to judge by.
type book struct {
	epoch int
	seen  []int
	told  []api.Tell
	marks []api.Mark
}

func (b book) judge(a api.Ask) verdict {
	kind, t := sess.Judge(b.epoch, b.seen, b.told, b.marks, a)
	return verdict{kind, t}
}

func (b book) clone() book {
	return book{b.epoch, slices.Clone(b.seen), slices.Clone(b.told), slices.Clone(b.marks)}
}

func (b book) same(x book) bool {
	return b.epoch == x.epoch && slices.Equal(b.seen, x.seen) && slices.Equal(b.told, x.told) && slices.Equal(b.marks, x.marks)
}

// page is what is known of one client.
type page struct {
	seen int
	told api.Tell
	mark api.Mark
}

// with is b with that page behind its last.
func (b book) with(p page) book {
	b = b.clone()
	b.seen, b.told, b.marks = append(b.seen, p.seen), append(b.told, p.told), append(b.marks, p.mark)
	return b
}

// bookOf is a book of these pages.
func bookOf(epoch int, l ...page) book {
	b := book{epoch: epoch}
	for _, p := range l {
		b = b.with(p)
	}
	return b
}

// pages are those of b by the clients' numbers; none where its lists are not as many.
func (b book) pages() map[int]page {
	all := map[int]page{}
	for i := range b.seen {
		if len(b.told) == len(b.seen) && len(b.marks) == len(b.seen) {
			all[i+1] = page{b.seen[i], b.told[i], b.marks[i]}
		}
	}
	return all
}

// want is what Judge is to tell: the first of the chapter's cases, the last of which is Fresh.
func (b book) want(a api.Ask) verdict {
	p, known := b.pages()[a.From]
	byMark := api.Tell{Kind: 1, To: a.From, Epoch: b.epoch, Seq: p.mark.Seq, Err: p.mark.Err, File: p.mark.File, Ver: p.mark.Ver}
	cases := []struct {
		is bool
		v  verdict
	}{
		{!known || a.Seq < 1, verdict{kind: old}},
		{a.Epoch < b.epoch || a.Epoch > b.epoch, verdict{kind: stale}},
		{p.seen > a.Seq, verdict{kind: old}},
		{p.told.Seq == a.Seq, verdict{again, p.told}},
		{p.mark.Seq == a.Seq, verdict{again, byMark}},
		{true, verdict{kind: fresh}},
	}
	for _, c := range cases {
		if c.is {
			return c.v
		}
	}
	panic("one is")
}

// page is one with these numbers, all else of all kinds.
func (d *dice) page(seen, told, marked int) page {
	return page{seen, d.tell(told), d.mark(marked)}
}

// near is a page of small numbers, above 0 or not.
func (d *dice) near() page {
	return d.page(d.below(6)-1, d.below(6)-1, d.below(6)-1)
}

// odd is a book such as no server has: lists of unlike lengths, numbers of all kinds.
func (d *dice) odd() book {
	b := book{epoch: d.far()}
	for range d.below(5) {
		b = b.with(d.page(d.far(), d.far(), d.far()))
	}
	if d.below(2) == 0 {
		b.seen = b.seen[:d.below(len(b.seen)+1)]
		b.told = b.told[:d.below(len(b.told)+1)]
		b.marks = b.marks[:d.below(len(b.marks)+1)]
	}
	return b
}

// ask is one of all kinds.
func (d *dice) ask() api.Ask {
	a := api.Ask{Kind: d.far(), From: d.of(d.far(), 1, 2, 3, 4), Epoch: d.far(), Seq: d.far(), Name: []string{"", "a", "a name"}[d.below(3)], File: d.far(), Mode: d.far()}
	for range d.below(4) {
		a.Writes = append(a.Writes, api.Write{Off: d.far(), B: "w"})
	}
	return a
}

// someBooks are books of a server, empty ones, and such as no server has.
func someBooks() []book {
	throw := dice(9)
	l := []book{
		{}, {epoch: 3},
		bookOf(3, page{seen: 5}),
		bookOf(3, throw.page(5, 5, 4)),
		bookOf(3, throw.page(5, 5, 5), throw.page(0, 0, 2), throw.page(9, 9, 8)),
		bookOf(3, page{}, page{seen: 1}, throw.page(2, 0, 2)),
		bookOf(0, throw.page(1, 1, 1), throw.page(1, 1, 0), throw.page(1, 0, 1)),
	}
	for range 8 {
		l = append(l, throw.odd())
	}
	return l
}

// someAsks are asks that someBooks judge in all ways.
func someAsks() []api.Ask {
	throw := dice(10)
	var l []api.Ask
	for from := range 6 {
		for _, epoch := range []int{0, 3} {
			for _, seq := range []int{-1, 0, 1, 2, 5, 6, 8, 9, 10} {
				a := throw.ask()
				a.From, a.Epoch, a.Seq = from, epoch, seq
				l = append(l, a)
			}
		}
	}
	return append(l, throw.ask(), throw.ask(), throw.ask())
}
