package desk_test

import (
	"math"
	"slices"

	"tenancy/api"
	"tenancy/desk"
)

// The limits and the modes, as the tests count on them.
const (
	files   = 6
	clients = 3
	room    = 4
	term    = 60
	free    = 0
	reads   = 1
	wrote   = 2
	most    = math.MaxInt
)

// dice is a row of numbers by a rule that mixes them, the same each time (splitmix64).
type dice uint64

func (d *dice) below(n int) int {
	*d += 0x9e3779b97f4a7c15
	x := uint64(*d)
	x = (x ^ x>>30) * 0xbf58476d1ce4e5b9
	x = (x ^ x>>27) * 0x94d049bb133111eb
	return int((x ^ x>>31) % uint64(n))
}

// of is one of l.
func (d *dice) of(l ...int) int { return l[d.below(len(l))] }

func held(client, file, mode, until int) api.Lease {
	return api.Lease{Client: client, File: file, Mode: mode, Until: until}
}

func wait(client, seq, file, mode int) api.Wait {
	return api.Wait{Client: client, Seq: seq, File: file, Mode: mode}
}

func leases(l ...api.Lease) []api.Lease { return l }

func waits(l ...api.Wait) []api.Wait { return l }

func of(l []api.Lease, w []api.Wait) api.Desk { return api.Desk{Leases: l, Line: w} }

func same(a, b api.Desk) bool {
	return slices.Equal(a.Leases, b.Leases) && slices.Equal(a.Line, b.Line)
}

func clone(d api.Desk) api.Desk { return of(slices.Clone(d.Leases), slices.Clone(d.Line)) }

// asked is all that Ask tells.
type asked struct {
	x     api.Desk
	ok    bool
	calls []int
	e     api.Errno
}

func ask(d api.Desk, now int, w api.Wait) (a asked) {
	a.x, a.ok, a.calls, a.e = desk.Ask(d, now, w)
	return a
}

func (a asked) is(b asked) bool {
	return same(a.x, b.x) && a.ok == b.ok && slices.Equal(a.calls, b.calls) && a.e == b.e
}

// ran is all that Run tells.
type ran struct {
	x     api.Desk
	let   []api.Wait
	calls [][2]int
}

func run(d api.Desk, now int) (r ran) {
	r.x, r.let, r.calls = desk.Run(d, now)
	return r
}

func (r ran) is(b ran) bool {
	return same(r.x, b.x) && slices.Equal(r.let, b.let) && slices.Equal(r.calls, b.calls)
}

// terms are how a file is held.
type terms struct{ mode, until int }

// seat is what a client waits for, and how many had come, itself among them, when it came.
type seat struct {
	came int
	w    api.Wait
}

// book is who holds what, by file and client, and who waits: what the tests hold the desks against.
type book struct {
	held  [files + 1][clients + 1]terms
	seats map[int]seat
	came  int
}

func bookOf(d api.Desk) *book {
	b := &book{seats: map[int]seat{}}
	for _, x := range d.Leases {
		b.held[x.File][x.Client] = terms{x.Mode, x.Until}
	}
	for _, w := range d.Line {
		b.came++
		b.seats[w.Client] = seat{b.came, w}
	}
	return b
}

// desk is all of it, found by asking for each in its order.
func (b *book) desk() (d api.Desk) {
	for file := range b.held {
		for client, x := range b.held[file] {
			if x.mode != free {
				d.Leases = append(d.Leases, held(client, file, x.mode, x.until))
			}
		}
	}
	for n := 1; n <= b.came; n++ {
		for _, s := range b.seats {
			if s.came == n {
				d.Line = append(d.Line, s.w)
			}
		}
	}
	return d
}

// prune takes out the leases that are over.
func (b *book) prune(now int) {
	for file := range b.held {
		for client, x := range b.held[file] {
			if now >= x.until {
				b.held[file][client] = terms{}
			}
		}
	}
}

// clash is who holds w's file so that w may not be granted, by a look at all clients there are.
func (b *book) clash(w api.Wait) []int {
	var who []int
	for other, x := range b.held[w.File] {
		if other != w.Client && (x.mode == wrote || x.mode == reads && w.Mode == wrote) {
			who = append(who, other)
		}
	}
	return who
}

// behind says whether another one came for w's file ahead of w's client, where that waits for it.
func (b *book) behind(w api.Wait) bool {
	came := most
	if own, ok := b.seats[w.Client]; ok && own.w.File == w.File {
		came = own.came
	}
	for other, s := range b.seats {
		if other != w.Client && s.w.File == w.File && s.came < came {
			return true
		}
	}
	return false
}

// grant lets w have its file, and takes nothing from what its client has of it.
func (b *book) grant(now int, w api.Wait) {
	until := most
	if now <= most-term {
		until = now + term
	}
	x := &b.held[w.File][w.Client]
	x.mode, x.until = max(x.mode, w.Mode), max(x.until, until)
	delete(b.seats, w.Client)
}

// ask is what Ask is to do, and to tell.
func (b *book) ask(now int, w api.Wait) asked {
	b.prune(now)
	calls := b.clash(w)
	if len(calls) == 0 && !b.behind(w) {
		b.grant(now, w)
		return asked{x: b.desk(), ok: true}
	}
	own, has := b.seats[w.Client]
	switch {
	case has && own.w.File == w.File:
		b.seats[w.Client] = seat{own.came, w}
	case has || len(b.seats) < room:
		b.came++
		b.seats[w.Client] = seat{b.came, w}
	default:
		return asked{x: b.desk(), e: api.EFull}
	}
	return asked{x: b.desk(), calls: calls}
}

// run is what Run is to do, and to tell: whoever came first, and may be let, is, until there is nobody any more.
func (b *book) run(now int) (r ran) {
	b.prune(now)
	for again := true; again; {
		again = false
		for _, w := range b.desk().Line {
			if len(b.clash(w)) == 0 && !b.behind(w) {
				b.grant(now, w)
				r.let, again = append(r.let, w), true
				break
			}
		}
	}
	seen := map[[2]int]bool{}
	for _, w := range b.desk().Line {
		for _, client := range b.clash(w) {
			if pair := [2]int{w.File, client}; !seen[pair] {
				seen[pair], r.calls = true, append(r.calls, pair)
			}
		}
	}
	r.x = b.desk()
	return r
}

// ways1 are all ways in which one file may be held or have been, at now: of each client nothing, or a lease of either mode, over or not; no two of these hold it against each other.
func ways1(file, now int) [][]api.Lease {
	l := [][]api.Lease{nil}
	for client := 1; client <= clients; client++ {
		for _, x := range slices.Clone(l) {
			for _, until := range []int{now - 1, now, now + 1, now + term + 1} {
				l = append(l, append(slices.Clone(x), held(client, file, reads, until)), append(slices.Clone(x), held(client, file, wrote, until)))
			}
		}
	}
	return slices.DeleteFunc(l, func(x []api.Lease) bool { return !alone(x, now) })
}

// alone says whether at now, and later on, whoever holds a file to write holds it alone.
func alone(l []api.Lease, now int) bool {
	for i, x := range l {
		for _, y := range l[:i] {
			if x.File == y.File && max(x.Mode, y.Mode) == wrote && min(x.Until, y.Until) > now {
				return false
			}
		}
	}
	return true
}

// lines are all lines there may be of clients 1 to 3 and files 1 and 2.
func lines() [][]api.Wait {
	all := [][]api.Wait{nil}
	for i := 0; i < len(all); i++ {
		for client := 1; client <= clients; client++ {
			if slices.ContainsFunc(all[i], func(x api.Wait) bool { return x.Client == client }) {
				continue
			}
			for n := range 4 {
				all = append(all, append(slices.Clone(all[i]), wait(client, 90-i%7, 1+n%2, reads+n/2)))
			}
		}
	}
	return all
}

// fullOf is a line without room: four of whom w's client is none, or one at that place.
func (d *dice) fullOf(client, place int) (l []api.Wait) {
	for i := range room {
		other := 10 + i
		if i == place {
			other = client
		}
		l = append(l, wait(other, d.below(99), 1+d.below(2), reads+d.below(2)))
	}
	return l
}

// someNumbers are close by the limits, far, and such as are like one another in the lowest bytes.
var someNumbers = []int{math.MinInt, math.MinInt + 1, -1 << 32, -1<<32 + 1, -60, -2, -1, 0, 1, 2, 3, 4, 5, 6, 7, 8, 1<<8 + 1, 1<<8 + 2, 1 << 31, 1 << 32, 1<<32 + 1, 1<<32 + 2, 1 << 62, most - 61, most - 60, most - 59, most - 1, most}

// oddLeases and oddWaits are lists such as no call tells: in no order, of one client many, longer than there is room for.
func (d *dice) oddLeases(n int) (l []api.Lease) {
	for range n {
		l = append(l, held(d.odd(), d.odd(), d.odd(), d.odd()))
	}
	return l
}

func (d *dice) oddWaits(n int) (l []api.Wait) {
	for range n {
		l = append(l, wait(d.odd(), d.odd(), d.odd(), d.odd()))
	}
	return l
}

// odd is one of someNumbers, more often one that may be.
func (d *dice) odd() int {
	if d.below(2) == 0 {
		return d.below(4)
	}
	return d.of(someNumbers...)
}
