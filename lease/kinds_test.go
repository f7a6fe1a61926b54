package lease_test

import (
	"fmt"
	"math"
	"slices"

	"tenancy/api"
)

// The limits and the modes, as the tests count on them.
const (
	files   = 6
	clients = 3
	free    = 0
	reads   = 1
	wrote   = 2
	most    = math.MaxInt
)

// dice is a row of numbers by a rule that mixes them, the same each time (splitmix64).
type dice uint64

func (d *dice) below(n int) int {
	*d += 0x9e3779b97f4a7c15
	x := uint64(*d)
	x = (x ^ x>>30) * 0xbf58476d1ce4e5b9
	x = (x ^ x>>27) * 0x94d049bb133111eb
	return int((x ^ x>>31) % uint64(n))
}

// of is one of l.
func (d *dice) of(l []int) int { return l[d.below(len(l))] }

func of(client, file, mode, until int) api.Lease {
	return api.Lease{Client: client, File: file, Mode: mode, Until: until}
}

// untils are ends of leases that may be, close by one another and far.
var untils = []int{0, 1, 2, 5, 6, 59, 60, 61, 1 << 31, 1<<32 + 5, 1 << 62, most - 1, most}

// nows are times around all of these, and such as no clock shows.
var nows = []int{math.MinInt, math.MinInt + 1, -1<<32 + 5, -60, -1, 0, 1, 2, 3, 4, 5, 6, 7, 58, 59, 60, 61, 62, 1<<31 - 1, 1 << 31, 1<<32 + 4, 1<<32 + 5, 1<<62 - 1, 1 << 62, most - 2, most - 1, most}

// someClients, someFiles and someModes are the ones that there are, those around them, and such as are like one of them in the lowest bytes.
var (
	someClients = []int{math.MinInt, -1<<32 + 1, -1, 0, 1, 2, 3, 4, 5, 1<<8 + 2, 1<<32 + 1, most}
	someFiles   = []int{math.MinInt, -1<<32 + 2, -2, 0, 1, 2, 3, 4, 5, 6, 7, 8, 1<<8 + 1, 1<<32 + 2, most}
	someModes   = []int{math.MinInt, -1, free, reads, wrote, 3, 4, 1<<32 + 2, most}
)

// lease is one that may be.
func (d *dice) lease() api.Lease {
	return of(1+d.below(clients), 1+d.below(files), reads+d.below(2), d.of(untils))
}

// list is one that may be, of few, of some, or of all that there may be.
func (d *dice) list() []api.Lease {
	t, share := table{}, 1+d.below(8)
	for file := 1; file <= files; file++ {
		for client := 1; client <= clients; client++ {
			if d.below(8) < share {
				t[place{client, file}] = terms{reads + d.below(2), d.of(untils)}
			}
		}
	}
	return t.list()
}

// beside are all lists of one file's leases that have these ends: of each client none, or one of either mode.
func beside(file int, untils ...int) [][]api.Lease {
	l := [][]api.Lease{nil}
	for client := 1; client <= clients; client++ {
		for _, x := range slices.Clone(l) {
			for _, until := range untils {
				l = append(l, append(slices.Clone(x), of(client, file, reads, until)), append(slices.Clone(x), of(client, file, wrote, until)))
			}
		}
	}
	return l
}

// place is whose lease it is, and of what.
type place struct{ client, file int }

// terms are how it is held.
type terms struct{ mode, until int }

// table is who holds what: what the tests hold the lists against.
type table map[place]terms

func tableOf(l []api.Lease) table {
	t := table{}
	for _, x := range l {
		t[place{x.Client, x.File}] = terms{x.Mode, x.Until}
	}
	return t
}

// list is all of it, found by asking for each in its order.
func (t table) list() []api.Lease {
	var l []api.Lease
	for file := 1; file <= files; file++ {
		for client := 1; client <= clients; client++ {
			if x, ok := t[place{client, file}]; ok {
				l = append(l, of(client, file, x.mode, x.until))
			}
		}
	}
	return l
}

// holds is what Holds is to tell.
func (t table) holds(now, client, file int) int {
	if x := t[place{client, file}]; x.until > now {
		return x.mode
	}
	return free
}

// clash is what Clash is to tell.
func (t table) clash(now, client, file, mode int) []int {
	var who []int
	for other := 1; other <= clients; other++ {
		switch held := t.holds(now, other, file); {
		case other == client:
		case held == wrote, held == reads && mode == wrote:
			who = append(who, other)
		}
	}
	return who
}

// grant puts x in, as Grant is to.
func (t table) grant(x api.Lease) {
	at := place{x.Client, x.File}
	was := t[at]
	if was.mode == wrote {
		x.Mode = wrote
	}
	if was.until > x.Until {
		x.Until = was.until
	}
	t[at] = terms{x.Mode, x.Until}
}

// prune takes out what Prune is to.
func (t table) prune(now int) {
	for at, x := range t {
		if now >= x.until {
			delete(t, at)
		}
	}
}

// mayBe is what May is to tell: each is held against all that stand ahead of it.
func mayBe(l []api.Lease) bool {
	faults := 0
	for i, x := range l {
		if x.Client < 1 || x.Client > clients || x.File < 1 || x.File > files || x.Mode != reads && x.Mode != wrote || x.Until < 0 {
			faults++
		}
		for _, y := range l[:i] {
			if y.File > x.File || y.File == x.File && y.Client >= x.Client {
				faults++
			}
		}
	}
	return faults == 0
}

// whole is a list of all leases that there may be at once, no two of them alike in when they are over.
func whole() []api.Lease {
	var l []api.Lease
	for file := 1; file <= files; file++ {
		for client := 1; client <= clients; client++ {
			l = append(l, of(client, file, reads+(client+file)%2, 10*file+client))
		}
	}
	return l
}

// wrongLeases are leases that may not be, each by one thing.
func wrongLeases() []api.Lease {
	l := []api.Lease{{}}
	for _, n := range []int{math.MinInt, -1<<32 + 1, -1 << 32, -1, 0, 1<<8 + 1, 1 << 32, 1<<32 + 1, most} {
		l = append(l, of(n, 2, reads, 60), of(2, n, reads, 60), of(2, 2, n, 60))
	}
	l = append(l, of(clients+1, 2, wrote, 60), of(2, files+1, wrote, 60), of(2, 2, wrote+1, 60))
	for _, n := range []int{math.MinInt, math.MinInt + 1, -1 << 32, -1<<32 + 1, -60, -1} {
		l = append(l, of(2, 2, reads, n))
	}
	return l
}

// wrongLists are lists that may not be, each by one thing.
func wrongLists() map[string][]api.Lease {
	all := map[string][]api.Lease{
		"twice":              {of(1, 2, reads, 5), of(1, 2, reads, 5)},
		"twice, others ends": {of(1, 2, reads, 5), of(1, 2, reads, 6)},
		"twice, other modes": {of(1, 2, reads, 5), of(1, 2, wrote, 5)},
		"by client":          {of(1, 3, reads, 5), of(2, 2, reads, 5)},
		"falling clients":    {of(2, 2, reads, 5), of(1, 2, reads, 5)},
		"falling files":      {of(1, 3, reads, 5), of(1, 2, reads, 5)},
		"the last falls":     {of(1, 2, reads, 5), of(2, 2, reads, 5), of(3, 2, reads, 5), of(3, 1, reads, 5)},
		"twice, apart":       {of(1, 2, reads, 5), of(2, 2, reads, 5), of(1, 2, reads, 5)},
	}
	for i, x := range wrongLeases() {
		all[fmt.Sprint(i, " alone")] = []api.Lease{x}
		if x.File == 2 && x.Client == 2 {
			all[fmt.Sprint(i, " in order")] = []api.Lease{of(1, 2, reads, 60), x, of(3, 2, reads, 60)}
		}
	}
	for i := range whole() {
		l := whole()
		l[i].Mode = free
		all[fmt.Sprint("no mode of ", i)] = l
		l = slices.Insert(whole(), i, whole()[i])
		all[fmt.Sprint("twice ", i)] = l
	}
	return all
}
