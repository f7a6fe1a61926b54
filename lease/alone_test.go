package lease_test

import (
	"slices"
	"testing"

	"tenancy/api"
	"tenancy/clock"
	"tenancy/lease"
)

// alone says whether, at now and at each time behind it, whoever holds a file to write holds it alone.
func alone(l []api.Lease, now int) bool {
	times := []int{now}
	for _, x := range l {
		// Between these times nothing turns but that leases are over.
		times = append(times, max(now, x.Until-1), max(now, x.Until))
	}
	for _, at := range times {
		for file := 1; file <= files; file++ {
			var holding, writing int
			for client := 1; client <= clients; client++ {
				held := lease.Holds(l, at, client, file)
				holding += min(held, 1)
				writing += held / wrote
			}
			if writing > 0 && holding > 1 {
				return false
			}
		}
	}
	return true
}

// TestClashKeepsWhoWritesAlone: of all ways in which one file may be held, the one who writes alone, what clashes with nobody is granted and leaves it so; what clashes would not.
func TestClashKeepsWhoWritesAlone(t *testing.T) {
	granted, kept := 0, 0
	for _, x := range beside(3, 5, 6, 9, most) {
		for _, now := range []int{0, 4, 5, 8, 9} {
			l := lease.Prune(x, now)
			if !alone(l, now) {
				continue
			}
			for client := 1; client <= clients; client++ {
				for _, mode := range []int{reads, wrote} {
					for _, until := range []int{now + 1, now + 2, most} {
						clash := lease.Clash(l, now, client, 3, mode)
						got := lease.Grant(l, of(client, 3, mode, until))
						if alone(got, now) != (len(clash) == 0) {
							t.Fatalf("at %d %d asks for %d of %v: Clash %v, granted it is %v", now, client, mode, l, clash, got)
						}
						if len(clash) == 0 {
							granted++
						} else {
							kept++
						}
					}
				}
			}
		}
	}
	if granted < 1000 || kept < 1000 {
		t.Errorf("%d granted, %d kept from it", granted, kept)
	}
}

// lend is what is done by the one who lends: what is over goes, and x is granted where nobody clashes.
func lend(l []api.Lease, now int, x api.Lease) ([]api.Lease, bool) {
	l = lease.Prune(l, now)
	if len(lease.Clash(l, now, x.Client, x.File, x.Mode)) > 0 {
		return l, false
	}
	return lease.Grant(l, x), true
}

// TestWhoHoldsToWriteHoldsAlone: in runs in which it is lent for terms of all lengths, and given back.
func TestWhoHoldsToWriteHoldsAlone(t *testing.T) {
	throw := dice(8)
	lent, kept := 0, 0
	for range 200 {
		var l []api.Lease
		now := 0
		for range 200 {
			now += throw.below(4)
			client, file, ok := 1+throw.below(clients), 1+throw.below(2), false
			if throw.below(5) == 0 {
				l = lease.Drop(l, client, file)
				ok = lease.Holds(l, now, client, file) == free
			} else if l, ok = lend(l, now, of(client, file, reads+throw.below(2), now+1+throw.below(20))); ok {
				lent++
				ok = lease.Holds(l, now, client, file) != free
			} else {
				kept++
				ok = true
			}
			if !ok || !lease.May(l) || !alone(l, now) {
				t.Fatalf("at %d, behind %d, %d: %v", now, client, file, l)
			}
		}
	}
	if lent < 1000 || kept < 1000 {
		t.Errorf("%d lent, %d kept from it", lent, kept)
	}
}

// near is what a client holds of the file by its own clock; what it asked (out), when it did first, in which mode; whether that was granted, in which mode it holds it then.
type near struct {
	now         int
	mode, until int
	out         bool
	first, want int
	granted     bool
	let         int
}

// valid is the mode in which it holds the file near.
func (n near) valid() int {
	if n.now >= n.until {
		return free
	}
	return n.mode
}

// world is a server's leases of one file, and clients, of clocks that run unlike.
type world struct {
	now     int
	leases  []api.Lease
	clients [clients]near
	dice    dice
}

const theFile = 4

// pass lets real time go on; each clock gains as much as fits, mostly the least or the most.
func (w *world) pass(by int) {
	w.now += w.gain(by)
	for i := range w.clients {
		w.clients[i].now += w.gain(by)
	}
}

func (w *world) gain(by int) int {
	fit := []int{}
	for gain := range 2*by + 1 {
		if clock.Fits(by, gain, api.Eps) {
			fit = append(fit, gain)
		}
	}
	switch w.dice.below(5) {
	case 0, 1:
		return fit[0]
	case 2, 3:
		return fit[len(fit)-1]
	}
	return w.dice.of(fit)
}

// step lets one client go on: what it asks is lost, or comes late, and so is what it is told.
func (w *world) step(i int) {
	n := &w.clients[i]
	switch w.dice.below(8) {
	case 0, 1:
		if !n.out {
			n.out, n.granted, n.first, n.want = true, false, n.now, reads+w.dice.below(2)
		}
	case 2, 3, 4:
		if n.out && !n.granted {
			w.asked(i)
		}
	case 5:
		if n.out && n.granted {
			// It counts from when it asked: when that came, and what it was told, it does not know.
			if until := n.first + clock.Short(api.Term, api.Eps); n.now < until {
				n.mode, n.until = n.let, max(n.until, until)
			}
			n.out = false
		}
	case 6:
		if w.dice.below(4) == 0 {
			// It is silent from now on, and holds nothing; its lease stands till its end.
			n.out, n.mode, n.until = false, free, 0
		}
	case 7:
		if !n.out && w.dice.below(2) == 0 {
			n.mode, n.until = free, 0
			w.leases = lease.Drop(w.leases, i+1, theFile)
		}
	}
}

// asked is what the server does when what client i asked comes.
func (w *world) asked(i int) {
	n := &w.clients[i]
	l, ok := lend(w.leases, w.now, of(i+1, theFile, n.want, clock.Add(w.now, api.Term)))
	if w.leases = l; ok {
		n.granted, n.let = true, lease.Holds(l, w.now, i+1, theFile)
	}
}

// TestWhoHoldsNearIsLent: whatever is lost or late, whoever is silent, however unlike clocks run within their bound: what one holds near by its own clock it holds by the server's, and nobody else may write it then, nor write near.
func TestWhoHoldsNearIsLent(t *testing.T) {
	var held, late [3]int
	for run := range 300 {
		w := world{dice: dice(run)}
		for range 400 {
			w.pass(w.dice.of([]int{1, 5, 10, 10, 10, 20}))
			for range 1 + w.dice.below(5) {
				w.step(w.dice.below(clients))
			}
			for i, n := range w.clients {
				mode := n.valid()
				if mode == free {
					continue
				}
				held[mode]++
				if n.until-n.now <= 5 {
					late[mode]++
				}
				if lease.Holds(w.leases, w.now, i+1, theFile) < mode {
					t.Fatalf("run %d: %d holds %d near, not by %v at %d", run, i+1, mode, w.leases, w.now)
				}
				if who := lease.Clash(w.leases, w.now, i+1, theFile, mode); len(who) > 0 {
					t.Fatalf("run %d: beside %d, who holds %d near, %v hold it, too: %v at %d", run, i+1, mode, who, w.leases, w.now)
				}
			}
			if writes := slices.ContainsFunc(w.clients[:], func(n near) bool { return n.valid() == wrote }); writes && w.reading() > 1 {
				t.Fatalf("run %d: one writes near, %d hold it near", run, w.reading())
			}
		}
	}
	if min(held[reads], held[wrote]) < 1000 || min(late[reads], late[wrote]) < 100 {
		t.Errorf("held near: %v, of these near its end: %v", held, late)
	}
}

// reading is how many hold it near.
func (w *world) reading() (count int) {
	for _, n := range w.clients {
		count += min(n.valid(), 1)
	}
	return count
}
