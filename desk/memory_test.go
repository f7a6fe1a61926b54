package desk_test

import (
	"fmt"
	"slices"
	"sync"
	"testing"

	"tenancy/api"
	"tenancy/desk"
)

// told is all that a call may tell: a desk, who was let, who is called by Ask, who by Run.
type told struct {
	x     api.Desk
	let   []api.Wait
	calls []int
	pairs [][2]int
	rest  string
}

func (a told) is(b told) bool {
	return same(a.x, b.x) && slices.Equal(a.let, b.let) && slices.Equal(a.calls, b.calls) && slices.Equal(a.pairs, b.pairs) && a.rest == b.rest
}

// ways are all calls: such as grant, as keep waiting, as say that there is no room, as change nothing.
func ways() map[string]func(d api.Desk) told {
	all := map[string]func(d api.Desk) told{}
	for client := range 5 {
		for file := 1; file <= 3; file++ {
			for _, now := range []int{5, 50} {
				w := wait(client, 77, file, reads+file%2)
				all[fmt.Sprint("Ask of ", w, " at ", now)] = func(d api.Desk) told {
					a := ask(d, now, w)
					return told{x: a.x, calls: a.calls, rest: fmt.Sprint(a.ok, a.e)}
				}
			}
			all[fmt.Sprint("Give of ", client, " and ", file)] = func(d api.Desk) told { return told{x: desk.Give(d, client, file)} }
		}
	}
	for _, now := range []int{-1, 5, 40, 50, 100} {
		all[fmt.Sprint("Run at ", now)] = func(d api.Desk) told {
			r := run(d, now)
			return told{x: r.x, let: r.let, pairs: r.calls}
		}
	}
	return all
}

// someDesks are full and empty ones, some such as no call tells.
func someDesks() []api.Desk {
	some := leases(held(1, 1, reads, 40), held(2, 1, reads, 60), held(3, 2, wrote, 60), held(1, 3, reads, 5))
	throw := dice(8)
	return []api.Desk{
		{}, of(some, nil), of(some[:2], waits(wait(3, 5, 1, wrote))), of(nil, waits(wait(3, 5, 1, wrote), wait(1, 6, 1, reads))),
		of(some, waits(wait(3, 5, 1, wrote), wait(2, 6, 2, reads), wait(1, 7, 2, reads))),
		of(some, waits(wait(2, 5, 3, wrote), wait(3, 6, 1, reads), wait(1, 7, 3, reads))),
		of(some, waits(wait(5, 5, 1, wrote), wait(6, 6, 2, wrote), wait(7, 6, 3, reads), wait(8, 6, 1, reads))),
		of(throw.oddLeases(3), throw.oddWaits(3)), of(throw.oddLeases(9), throw.oddWaits(9)), of(throw.oddLeases(20), nil), of(nil, throw.oddWaits(20)),
	}
}

// inRoom is d in lists that have spare room, in which others stand, and all of those.
func inRoom(d api.Desk) (in, room api.Desk) {
	room = of(slices.Concat(d.Leases, leases(held(3, 6, wrote, most), held(1, 1, wrote, 99))), slices.Concat(d.Line, waits(wait(2, 1, 1, reads), wait(9, 2, 2, wrote))))
	return of(room.Leases[:len(d.Leases)], room.Line[:len(d.Line)]), room
}

func TestNothingHandedInIsChanged(t *testing.T) {
	for name, way := range ways() {
		for _, d := range someDesks() {
			in, room := inRoom(d)
			was := clone(room)
			got := way(in)
			if !same(room, was) {
				t.Errorf("%s in %v changes it: %v", name, d, room)
			}
			if want := way(of(slices.Clip(slices.Clone(d.Leases)), slices.Clip(slices.Clone(d.Line)))); !got.is(want) {
				t.Errorf("%s in %v: %v with spare room, %v without", name, d, got, want)
			}
		}
	}
}

// TestNewMemory: what is written over what was handed in, or into what was told, is in the other by no way, nor in another list that was told, also where nothing came or went.
func TestNewMemory(t *testing.T) {
	for name, way := range ways() {
		for _, d := range someDesks() {
			want := way(d)
			in, room := inRoom(d)
			got := way(in)
			writeOver(room)
			if !got.is(want) {
				t.Fatalf("%s in %v: %v when that is written over, not %v", name, d, got, want)
			}
			was := clone(room)
			writeOver(got.x)
			if !same(room, was) {
				t.Fatalf("%s in %v: what is written into what was told is in what was handed in", name, d)
			}
			if !slices.Equal(got.let, want.let) {
				t.Fatalf("%s in %v: %v were let when the line is written over, not %v", name, d, got.let, want.let)
			}
			if again := way(d); !again.is(want) {
				t.Fatalf("%s in %v behind one that was written into: %v, not %v", name, d, again, want)
			}
		}
	}
}

// writeOver puts other leases and waits in the place of all of d's, in spare room too, other ones each time.
func writeOver(d api.Desk) {
	for i, x := range d.Leases[:cap(d.Leases)] {
		d.Leases[:cap(d.Leases)][i] = held(x.Until+1, -8, -8, x.Until+1)
	}
	for i, w := range d.Line[:cap(d.Line)] {
		d.Line[:cap(d.Line)][i] = wait(w.Seq+1, w.Seq+1, -8, -8)
	}
}

// TestNilIsAnEmptyList: in both nobody holds anything, nobody waits.
func TestNilIsAnEmptyList(t *testing.T) {
	a, b := leases(held(2, 1, wrote, 60)), waits(wait(3, 5, 1, reads))
	for _, l := range [][]api.Lease{nil, {}, a[:0]} {
		for _, line := range [][]api.Wait{nil, {}, b[:0]} {
			d := of(l, line)
			if got := ask(d, 5, wait(1, 9, 1, reads)); !got.is(asked{x: of(leases(held(1, 1, reads, 65)), nil), ok: true}) {
				t.Errorf("Ask: %v", got)
			}
			if got := desk.Give(d, 2, 1); !same(got, api.Desk{}) {
				t.Errorf("Give: %v", got)
			}
			if got := run(d, 5); !got.is(ran{}) {
				t.Errorf("Run: %v", got)
			}
		}
		if got := run(of(l, b), 5); !got.is(ran{x: of(leases(held(3, 1, reads, 65)), nil), let: b}) {
			t.Errorf("Run: %v", got)
		}
	}
	for _, line := range [][]api.Wait{nil, {}, b[:0]} {
		if got := ask(of(a, line), 5, wait(1, 9, 1, reads)); !got.is(asked{x: of(a, waits(wait(1, 9, 1, reads))), calls: []int{2}}) {
			t.Errorf("Ask: %v", got)
		}
	}
}

// TestSameAgain: nothing is kept from call to call; many may ask at once.
func TestSameAgain(t *testing.T) {
	var all sync.WaitGroup
	for name, way := range ways() {
		for _, d := range someDesks() {
			want := way(d)
			all.Go(func() {
				for range 5 {
					if got := way(d); !got.is(want) {
						t.Errorf("%s in %v: %v, then %v", name, d, want, got)
					}
				}
			})
		}
	}
	all.Wait()
}
