package line_test

import (
	"math"
	"slices"

	"tenancy/api"
)

// The limit and the modes, as the tests count on them.
const (
	room  = 4
	reads = 1
	wrote = 2
	most  = math.MaxInt
)

// dice is a row of numbers by a rule that mixes them, the same each time (splitmix64).
type dice uint64

func (d *dice) below(n int) int {
	*d += 0x9e3779b97f4a7c15
	x := uint64(*d)
	x = (x ^ x>>30) * 0xbf58476d1ce4e5b9
	x = (x ^ x>>27) * 0x94d049bb133111eb
	return int((x ^ x>>31) % uint64(n))
}

// of is one of l.
func (d *dice) of(l []int) int { return l[d.below(len(l))] }

func of(client, seq, file, mode int) api.Wait {
	return api.Wait{Client: client, Seq: seq, File: file, Mode: mode}
}

// someClients and someFiles are close by one another, far, and such as are like one another in the lowest bytes.
var (
	someClients = []int{math.MinInt, -1<<32 + 1, -1, 0, 1, 2, 3, 4, 5, 1<<8 + 2, 1<<32 + 1, 1<<32 + 2, most}
	someFiles   = []int{math.MinInt, -1<<32 + 2, -2, 0, 1, 2, 3, 6, 7, 1<<8 + 1, 1<<32 + 1, 1<<32 + 2, most}
	someSeqs    = []int{math.MinInt, -1, 0, 1, 2, 9, 10, 1 << 30, 1<<32 + 1, most}
	someModes   = []int{math.MinInt, -1, 0, reads, wrote, 3, 1<<32 + 1, most}
)

// wait is one of any kind.
func (d *dice) wait() api.Wait {
	return of(d.of(someClients), d.of(someSeqs), d.of(someFiles), d.of(someModes))
}

// odd is a list such as no call tells: longer than there is room for, of one client many.
func (d *dice) odd(n int) (l []api.Wait) {
	for range n {
		l = append(l, d.wait())
	}
	return l
}

// all are all lists there may be of clients 1 to 5 and files 1 and 2; no two waits in one are alike in anything but that.
func all() [][]api.Wait {
	lists := [][]api.Wait{nil}
	for i := 0; i < len(lists) && len(lists[i]) < room; i++ {
		for client := 1; client <= 5; client++ {
			if slices.ContainsFunc(lists[i], func(x api.Wait) bool { return x.Client == client }) {
				continue
			}
			for file := 1; file <= 2; file++ {
				n := len(lists[i])
				lists = append(lists, append(slices.Clone(lists[i]), of(client, 90-n, file, 1+n%2)))
			}
		}
	}
	return lists
}

// place is what a client waits for, and how many had come, itself among them, when it came.
type place struct {
	came int
	w    api.Wait
}

// book is who waits, by client, and how many came: what the tests hold the lists against.
type book struct {
	of   map[int]place
	came int
}

func bookOf(l []api.Wait) *book {
	b := &book{of: map[int]place{}}
	for _, x := range l {
		b.came++
		b.of[x.Client] = place{b.came, x}
	}
	return b
}

// list is all of it, whoever came first first.
func (b *book) list() []api.Wait {
	var l []api.Wait
	for n := 1; n <= b.came; n++ {
		for _, p := range b.of {
			if p.came == n {
				l = append(l, p.w)
			}
		}
	}
	return l
}

// put is what Put is to do, and to tell beside the list.
func (b *book) put(w api.Wait) bool {
	p, waits := b.of[w.Client]
	switch {
	case waits && p.w.File == w.File:
		b.of[w.Client] = place{p.came, w}
	case waits || len(b.of) < room:
		b.came++
		b.of[w.Client] = place{b.came, w}
	default:
		return false
	}
	return true
}

// ahead is what Ahead is to tell.
func (b *book) ahead(client, file int) bool {
	own, waits := b.of[client]
	waits = waits && own.w.File == file
	count := 0
	for other, p := range b.of {
		if other != client && p.w.File == file && (!waits || p.came < own.came) {
			count++
		}
	}
	return count > 0
}
