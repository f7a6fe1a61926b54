package lease_test

import (
	"fmt"
	"slices"
	"sync"
	"testing"

	"tenancy/api"
	"tenancy/lease"
)

// ways are all calls that tell a list of leases, those by which nothing goes or comes among them.
func ways() map[string]func(l []api.Lease) []api.Lease {
	all := map[string]func(l []api.Lease) []api.Lease{}
	for _, x := range []api.Lease{of(2, 2, wrote, 99), of(1, 1, reads, 7), of(3, 6, wrote, 0), of(0, 2, reads, 5)} {
		all[fmt.Sprint("Grant of ", x)] = func(l []api.Lease) []api.Lease { return lease.Grant(l, x) }
	}
	for _, x := range []place{{2, 2}, {1, 1}, {3, 6}, {4, 2}} {
		all[fmt.Sprint("Drop of ", x)] = func(l []api.Lease) []api.Lease { return lease.Drop(l, x.client, x.file) }
	}
	for _, now := range []int{-1, 5, 30, 100} {
		all[fmt.Sprint("Prune at ", now)] = func(l []api.Lease) []api.Lease { return lease.Prune(l, now) }
	}
	return all
}

// calls are all ways to hand a list in: what they tell, as a text.
func calls() map[string]func(l []api.Lease) string {
	all := map[string]func(l []api.Lease) string{
		"May":   func(l []api.Lease) string { return fmt.Sprint(lease.May(l)) },
		"Holds": func(l []api.Lease) string { return fmt.Sprint(lease.Holds(l, 5, 2, 2), lease.Holds(l, 5, 3, 6)) },
		"Clash": func(l []api.Lease) string {
			return fmt.Sprint(lease.Clash(l, 5, 2, 2, wrote), lease.Clash(l, 5, 1, 6, reads))
		},
	}
	for name, way := range ways() {
		all[name] = func(l []api.Lease) string { return fmt.Sprint(way(l)) }
	}
	return all
}

// allKinds are lists that may be, and such as may not be.
func allKinds() [][]api.Lease {
	l := [][]api.Lease{nil, whole(), {of(2, 2, reads, 5)}, {of(1, 2, wrote, 5), of(3, 2, reads, 60)}}
	for _, x := range wrongLists() {
		l = append(l, x)
	}
	return l
}

// inRoom is l in a list that has spare room, in which leases stand, and all of that.
func inRoom(l []api.Lease) (in, room []api.Lease) {
	room = slices.Concat(l, whole(), []api.Lease{of(2, 2, wrote, most), of(-1, -2, -3, -4)})
	return room[:len(l)], room
}

func TestNothingHandedInIsChanged(t *testing.T) {
	for name, call := range calls() {
		for _, l := range allKinds() {
			in, room := inRoom(l)
			was := slices.Clone(room)
			got := call(in)
			if !slices.Equal(room, was) {
				t.Errorf("%s of %v changes it: %v", name, l, room)
			}
			if want := call(slices.Clip(slices.Clone(l))); got != want {
				t.Errorf("%s of %v: %q with spare room, %q without", name, l, got, want)
			}
		}
	}
}

// TestNewMemory: what is written over what was handed in, or into what was told, is in the other by no way, also where nothing came or went.
func TestNewMemory(t *testing.T) {
	for name, way := range ways() {
		for _, l := range allKinds() {
			want := way(l)
			in, room := inRoom(l)
			got := way(in)
			for i := range room {
				room[i] = of(-9, -9, -9, -9)
			}
			if !slices.Equal(got, want) {
				t.Fatalf("%s of %v: %v when that is written over, not %v", name, l, got, want)
			}
			got = got[:cap(got)]
			for i := range got {
				got[i] = of(-8, -8, -8, -8)
			}
			if slices.Contains(room, of(-8, -8, -8, -8)) {
				t.Fatalf("%s of %v: what is written into what was told is in what was handed in", name, l)
			}
		}
	}
}

// TestClashIsNewMemory: what is written into one is in no other.
func TestClashIsNewMemory(t *testing.T) {
	ask := func() []int { return lease.Clash(whole(), 0, 0, 2, wrote) }
	a := ask()
	a = a[:cap(a)]
	for i := range a {
		a[i] = -8
	}
	if b := ask(); !slices.Equal(b, []int{1, 2, 3}) {
		t.Errorf("Clash behind one that was written into: %v", b)
	}
}

// TestNilIsAnEmptyList: in both nobody holds anything.
func TestNilIsAnEmptyList(t *testing.T) {
	spare := whole()
	for _, l := range [][]api.Lease{nil, {}, spare[:0]} {
		if !lease.May(l) || lease.Holds(l, 0, 1, 1) != free || len(lease.Clash(l, 0, 1, 1, wrote)) != 0 || len(lease.Drop(l, 1, 1)) != 0 || len(lease.Prune(l, 0)) != 0 {
			t.Errorf("somebody holds something in %v", l)
		}
		if got := lease.Grant(l, of(1, 1, reads, 5)); !slices.Equal(got, []api.Lease{of(1, 1, reads, 5)}) {
			t.Errorf("Grant: %v", got)
		}
	}
}

// TestSameAgain: nothing is kept from call to call; many may ask at once.
func TestSameAgain(t *testing.T) {
	var all sync.WaitGroup
	for name, call := range calls() {
		for _, l := range allKinds() {
			want := call(l)
			all.Go(func() {
				for range 5 {
					if got := call(l); got != want {
						t.Errorf("%s of %v: %q, then %q", name, l, want, got)
					}
				}
			})
		}
	}
	all.Wait()
}
