package lease_test

import (
	"math"
	"slices"
	"testing"

	"tenancy/api"
	"tenancy/lease"
)

func TestExample(t *testing.T) {
	l := []api.Lease{of(1, 2, reads, 60)}
	if got := lease.Clash(l, 0, 2, 2, api.Reads); len(got) != 0 {
		t.Errorf("Clash of Reads beside Reads: %v", got)
	}
}

func TestMayExamples(t *testing.T) {
	for i, l := range [][]api.Lease{
		nil, {}, whole(),
		{of(1, 1, reads, 0)}, {of(1, 1, wrote, 0)}, {of(3, 6, wrote, most)}, {of(3, 6, reads, 0)},
		{of(1, 1, wrote, 5), of(2, 1, wrote, 5), of(3, 1, reads, 5)},
		{of(3, 1, reads, 9), of(2, 2, reads, 8), of(1, 3, reads, 7)},
		{of(1, 1, reads, 0), of(1, 2, reads, 0), of(1, 6, reads, 0)},
	} {
		if !lease.May(l) {
			t.Errorf("%d: %v may be", i, l)
		}
	}
	for name, l := range wrongLists() {
		if lease.May(l) {
			t.Errorf("%s: %v may not be", name, l)
		}
	}
}

// TestMayOfEachThing turns each thing of each lease of the longest list to each number around its edges.
func TestMayOfEachThing(t *testing.T) {
	ask := func(i int, turn func(x *api.Lease)) {
		l := whole()
		turn(&l[i])
		if got := lease.May(l); got != mayBe(l) {
			t.Errorf("May of %v: %v", l, got)
		}
	}
	for i := range whole() {
		for _, n := range slices.Concat(someClients, someFiles, someModes, nows) {
			ask(i, func(x *api.Lease) { x.Client = n })
			ask(i, func(x *api.Lease) { x.File = n })
			ask(i, func(x *api.Lease) { x.Mode = n })
			ask(i, func(x *api.Lease) { x.Until = n })
		}
	}
}

// TestMayOfEachOrder takes all lists of up to three leases of three clients and of three files.
func TestMayOfEachOrder(t *testing.T) {
	lists := [][]api.Lease{nil}
	for i := 0; len(lists[i]) < 3; i++ {
		for n := range 9 {
			lists = append(lists, append(slices.Clone(lists[i]), of(1+n%3, 1+n/3, reads, 9-n)))
		}
	}
	count := 0
	for _, l := range lists {
		if lease.May(l) {
			count++
		}
		if got := lease.May(l); got != mayBe(l) {
			t.Errorf("May of %v: %v", l, got)
		}
	}
	// Of nine places none, one, two or three.
	if want := 1 + 9 + 36 + 84; count != want {
		t.Errorf("%d may be, not %d", count, want)
	}
}

func TestHoldsExamples(t *testing.T) {
	l := []api.Lease{of(1, 2, reads, 50), of(3, 2, reads, 60), of(2, 4, wrote, 55), of(1, 5, wrote, 0)}
	for _, x := range []struct{ now, client, file, want int }{
		{0, 1, 2, reads}, {49, 1, 2, reads}, {50, 1, 2, free}, {51, 1, 2, free}, {59, 3, 2, reads}, {60, 3, 2, free}, {54, 2, 4, wrote}, {55, 2, 4, free},
		// Another one's, of another file, over from the beginning on.
		{0, 2, 2, free}, {0, 1, 4, free}, {0, 2, 5, free}, {0, 1, 5, free}, {-1, 1, 5, wrote},
		// There is none such.
		{0, 0, 2, free}, {0, 4, 2, free}, {0, -1, 2, free}, {0, 1, 0, free}, {0, 1, 7, free}, {0, 1, 9, free}, {0, math.MinInt, most, free}, {0, 1<<32 + 1, 2, free}, {0, 1, 1<<32 + 2, free},
		// As early, and as late, as can be told.
		{math.MinInt, 1, 2, reads}, {most, 1, 2, free}, {-1, 2, 4, wrote},
	} {
		if got := lease.Holds(l, x.now, x.client, x.file); got != x.want {
			t.Errorf("Holds at %d, of %d, %d: %d, not %d", x.now, x.client, x.file, got, x.want)
		}
	}
	if got := lease.Holds([]api.Lease{of(1, 1, wrote, most)}, most-1, 1, 1); got != wrote {
		t.Errorf("Holds just ahead of the end of all time: %d", got)
	}
}

func TestHoldsOfAllKinds(t *testing.T) {
	throw := dice(1)
	for range 200 {
		l := throw.list()
		is := tableOf(l)
		for _, now := range nows {
			for _, client := range someClients {
				for _, file := range someFiles {
					if got, want := lease.Holds(l, now, client, file), is.holds(now, client, file); got != want {
						t.Fatalf("Holds of %v at %d, of %d, %d: %d, not %d", l, now, client, file, got, want)
					}
				}
			}
		}
	}
}

func TestClashExamples(t *testing.T) {
	l := []api.Lease{of(1, 2, reads, 50), of(3, 2, reads, 60), of(2, 4, wrote, 55), of(1, 6, reads, 9), of(2, 6, reads, 7), of(3, 6, reads, 8)}
	for _, x := range []struct {
		now, client, file, mode int
		want                    []int
	}{
		// To read: beside whoever reads, but not beside who writes; to write: beside nobody.
		{0, 2, 2, reads, nil}, {0, 2, 2, wrote, []int{1, 3}}, {0, 1, 4, reads, []int{2}}, {0, 3, 4, wrote, []int{2}},
		// One's own is in nobody's way.
		{0, 1, 2, wrote, []int{3}}, {0, 3, 2, wrote, []int{1}}, {0, 2, 4, wrote, nil}, {0, 2, 4, reads, nil}, {0, 1, 2, reads, nil},
		// What is over is in nobody's way.
		{49, 2, 2, wrote, []int{1, 3}}, {50, 2, 2, wrote, []int{3}}, {59, 2, 2, wrote, []int{3}}, {60, 2, 2, wrote, nil}, {54, 1, 4, reads, []int{2}}, {55, 1, 4, reads, nil}, {55, 1, 4, wrote, nil},
		// By their numbers, not by how long they hold it.
		{6, 0, 6, wrote, []int{1, 2, 3}}, {7, 0, 6, wrote, []int{1, 3}}, {8, 0, 6, wrote, []int{1}}, {9, 0, 6, wrote, nil}, {6, 2, 6, wrote, []int{1, 3}},
		// Another file's.
		{0, 1, 1, wrote, nil}, {0, 1, 3, wrote, nil}, {0, 1, 5, wrote, nil}, {0, 2, 0, wrote, nil}, {0, 2, 7, wrote, nil}, {0, 2, -2, wrote, nil}, {0, 2, 1<<32 + 2, wrote, nil},
		// Who is no client is someone else than all of them.
		{0, 4, 2, wrote, []int{1, 3}}, {0, -1, 2, wrote, []int{1, 3}}, {0, 1<<32 + 1, 2, wrote, []int{1, 3}}, {0, 0, 4, reads, []int{2}},
		// What is no mode is not Wrote.
		{0, 2, 2, free, nil}, {0, 2, 2, 3, nil}, {0, 2, 2, -1, nil}, {0, 2, 2, 1<<32 + 2, nil}, {0, 1, 4, free, []int{2}}, {0, 1, 4, 3, []int{2}},
		{math.MinInt, 2, 2, wrote, []int{1, 3}}, {most, 2, 2, wrote, nil},
	} {
		if got := lease.Clash(l, x.now, x.client, x.file, x.mode); !slices.Equal(got, x.want) {
			t.Errorf("Clash at %d, of %d, %d, %d: %v, not %v", x.now, x.client, x.file, x.mode, got, x.want)
		}
	}
}

// TestClashOfOneFile takes all ways in which one file may be held, another file's leases around them.
func TestClashOfOneFile(t *testing.T) {
	for _, x := range beside(3, 0, 5, 6, most) {
		l := slices.Concat([]api.Lease{of(2, 2, wrote, most)}, x, []api.Lease{of(1, 4, wrote, most)})
		is := tableOf(l)
		for _, now := range []int{math.MinInt, -1, 0, 4, 5, 6, most - 1, most} {
			for _, client := range someClients {
				for _, mode := range someModes {
					if got, want := lease.Clash(l, now, client, 3, mode), is.clash(now, client, 3, mode); !slices.Equal(got, want) {
						t.Fatalf("Clash of %v at %d, of %d, %d: %v, not %v", l, now, client, mode, got, want)
					}
				}
			}
		}
	}
}

func TestClashOfAllKinds(t *testing.T) {
	throw := dice(2)
	for range 50000 {
		l := throw.list()
		now, client, file, mode := throw.of(nows), throw.of(someClients), throw.of(someFiles), throw.of(someModes)
		if got, want := lease.Clash(l, now, client, file, mode), tableOf(l).clash(now, client, file, mode); !slices.Equal(got, want) {
			t.Fatalf("Clash of %v at %d, of %d, %d, %d: %v, not %v", l, now, client, file, mode, got, want)
		}
	}
}

func TestGrantExamples(t *testing.T) {
	a, b, c := of(1, 2, reads, 50), of(3, 2, reads, 60), of(2, 4, wrote, 55)
	l := []api.Lease{a, b, c}
	for _, x := range []struct {
		x    api.Lease
		want []api.Lease
	}{
		// In its place: between two, ahead of all, behind all; by File first.
		{of(2, 2, reads, 9), []api.Lease{a, of(2, 2, reads, 9), b, c}},
		{of(1, 1, wrote, 9), []api.Lease{of(1, 1, wrote, 9), a, b, c}},
		{of(3, 1, wrote, 9), []api.Lease{of(3, 1, wrote, 9), a, b, c}},
		{of(1, 3, wrote, 9), []api.Lease{a, b, of(1, 3, wrote, 9), c}},
		{of(1, 4, wrote, 9), []api.Lease{a, b, of(1, 4, wrote, 9), c}},
		{of(3, 4, reads, 0), []api.Lease{a, b, c, of(3, 4, reads, 0)}},
		{of(1, 6, reads, most), []api.Lease{a, b, c, of(1, 6, reads, most)}},
		// In the place of its own: the greater of both, each by itself.
		{of(1, 2, reads, 49), l}, {of(1, 2, reads, 50), l}, {of(2, 4, reads, 55), l}, {of(2, 4, wrote, 0), l},
		{of(1, 2, reads, 51), []api.Lease{of(1, 2, reads, 51), b, c}},
		{of(1, 2, wrote, 40), []api.Lease{of(1, 2, wrote, 50), b, c}},
		{of(1, 2, wrote, most), []api.Lease{of(1, 2, wrote, most), b, c}},
		{of(3, 2, wrote, 61), []api.Lease{a, of(3, 2, wrote, 61), c}},
		{of(2, 4, reads, 99), []api.Lease{a, b, of(2, 4, wrote, 99)}},
	} {
		if got := lease.Grant(l, x.x); !slices.Equal(got, x.want) {
			t.Errorf("Grant of %v: %v, not %v", x.x, got, x.want)
		}
	}
	if got := lease.Grant(nil, c); !slices.Equal(got, []api.Lease{c}) {
		t.Errorf("Grant to none: %v", got)
	}
}

func TestGrantOfAllKinds(t *testing.T) {
	throw := dice(3)
	for range 50000 {
		l, x := throw.list(), throw.lease()
		want := tableOf(l)
		want.grant(x)
		got := lease.Grant(l, x)
		if !slices.Equal(got, want.list()) {
			t.Fatalf("Grant of %v to %v: %v, not %v", x, l, got, want.list())
		}
		if !lease.May(got) || lease.Holds(got, x.Until-1, x.Client, x.File) < x.Mode {
			t.Fatalf("Grant of %v to %v: %v", x, l, got)
		}
	}
}

// TestGrantInAnyOrder: all that there may be, granted in any order, each twice, stand in one order.
func TestGrantInAnyOrder(t *testing.T) {
	throw := dice(4)
	for range 500 {
		want, left := whole(), slices.Concat(whole(), whole())
		var l []api.Lease
		for len(left) > 0 {
			i := throw.below(len(left))
			l = lease.Grant(l, left[i])
			left = slices.Delete(left, i, i+1)
			if !lease.May(l) {
				t.Fatalf("%v may not be", l)
			}
		}
		if !slices.Equal(l, want) {
			t.Fatalf("%v, not %v", l, want)
		}
	}
}

// TestGrantOfWhatMayNotBe: neither a lease nor a list that may not be is made any more of.
func TestGrantOfWhatMayNotBe(t *testing.T) {
	for _, x := range wrongLeases() {
		for _, l := range [][]api.Lease{nil, whole(), {of(2, 2, reads, 5)}, {of(1, 2, wrote, 50), of(1, 3, reads, 9)}} {
			if got := lease.Grant(l, x); !slices.Equal(got, l) {
				t.Errorf("Grant of %v to %v: %v", x, l, got)
			}
		}
	}
	for name, l := range wrongLists() {
		for _, x := range whole() {
			if got := lease.Grant(l, x); !slices.Equal(got, l) {
				t.Errorf("Grant of %v to %v (%s): %v", x, l, name, got)
			}
		}
	}
}

func TestDropExamples(t *testing.T) {
	a, b, c := of(1, 2, reads, 50), of(3, 2, reads, 60), of(2, 4, wrote, 55)
	l := []api.Lease{a, b, c}
	for _, x := range []struct {
		client, file int
		want         []api.Lease
	}{
		{1, 2, []api.Lease{b, c}}, {3, 2, []api.Lease{a, c}}, {2, 4, []api.Lease{a, b}},
		// Another one's, of another file, none such.
		{2, 2, l}, {1, 4, l}, {2, 1, l}, {4, 2, l}, {0, 2, l}, {1, 0, l}, {-1, 2, l}, {1, 7, l}, {1<<32 + 1, 2, l}, {1, 1<<32 + 2, l}, {math.MinInt, most, l},
	} {
		if got := lease.Drop(l, x.client, x.file); !slices.Equal(got, x.want) {
			t.Errorf("Drop of %d, %d: %v, not %v", x.client, x.file, got, x.want)
		}
	}
	if got := lease.Drop(l[:1], 1, 2); len(got) != 0 {
		t.Errorf("Drop of the one that there is: %v", got)
	}
}

func TestDropOfAllKinds(t *testing.T) {
	throw := dice(5)
	for range 2000 {
		l := throw.list()
		for _, client := range someClients {
			for _, file := range someFiles {
				want := tableOf(l)
				delete(want, place{client, file})
				if got := lease.Drop(l, client, file); !slices.Equal(got, want.list()) {
					t.Fatalf("Drop of %d, %d of %v: %v", client, file, l, got)
				}
			}
		}
	}
}

func TestPruneExamples(t *testing.T) {
	l := []api.Lease{of(1, 2, reads, 50), of(3, 2, reads, 60), of(2, 4, wrote, 55)}
	for _, x := range []struct {
		now  int
		want []api.Lease
	}{
		{math.MinInt, l}, {-1, l}, {0, l}, {49, l}, {50, l[1:]}, {51, l[1:]}, {54, l[1:]}, {55, l[1:2]}, {59, l[1:2]}, {60, nil}, {61, nil}, {most, nil},
	} {
		if got := lease.Prune(l, x.now); !slices.Equal(got, x.want) {
			t.Errorf("Prune at %d: %v, not %v", x.now, got, x.want)
		}
	}
	for now, want := range map[int]int{-1: 1, 0: 0, 1: 0} {
		if got := lease.Prune([]api.Lease{of(1, 1, reads, 0)}, now); len(got) != want {
			t.Errorf("Prune at %d of what is over at 0: %v", now, got)
		}
	}
	if got := lease.Prune([]api.Lease{of(1, 1, reads, most)}, most); len(got) != 0 {
		t.Errorf("Prune at the end of all time: %v", got)
	}
}

// TestPruneOfAllKinds also asks that it changes nothing of what is held then, or later on.
func TestPruneOfAllKinds(t *testing.T) {
	throw := dice(6)
	for range 2000 {
		l := throw.list()
		for i, now := range nows {
			want := tableOf(l)
			want.prune(now)
			got := lease.Prune(l, now)
			if !slices.Equal(got, want.list()) {
				t.Fatalf("Prune at %d of %v: %v", now, l, got)
			}
			then, client, file := nows[i+throw.below(len(nows)-i)], 1+throw.below(clients), 1+throw.below(files)
			if a, b := lease.Holds(l, then, client, file), lease.Holds(got, then, client, file); a != b {
				t.Fatalf("Prune at %d of %v: %d, %d hold %d then, not %d", now, l, client, file, b, a)
			}
		}
	}
}

// TestWhateverIsHandedIn: each call ends, none panics, also of lists that may not be, and of long ones.
func TestWhateverIsHandedIn(t *testing.T) {
	throw := dice(7)
	odd := slices.Concat(someClients, someFiles, someModes, nows)
	for n := range 3000 {
		var l []api.Lease
		for range n % 40 {
			l = append(l, of(throw.of(odd), throw.of(odd), throw.of(odd), throw.of(odd)))
		}
		x := of(throw.of(odd), throw.of(odd), throw.of(odd), throw.of(odd))
		now, client, file, mode := throw.of(odd), throw.of(odd), throw.of(odd), throw.of(odd)
		if lease.May(l) != mayBe(l) {
			t.Errorf("May of %v", l)
		}
		lease.Holds(l, now, client, file)
		lease.Clash(l, now, client, file, mode)
		if got := lease.Grant(l, x); !mayBe(l) && !slices.Equal(got, l) {
			t.Errorf("Grant of %v to %v: %v", x, l, got)
		}
		if got := lease.Drop(l, client, file); len(got) > len(l) {
			t.Errorf("Drop of %v: %v", l, got)
		}
		if got := lease.Prune(l, now); len(got) > len(l) {
			t.Errorf("Prune of %v: %v", l, got)
		}
	}
	long := slices.Repeat(whole(), 5000)
	if lease.May(long) || len(lease.Grant(long, of(1, 1, reads, 5))) != len(long) {
		t.Errorf("%d leases may be", len(long))
	}
}
