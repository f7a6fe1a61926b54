package desk_test

import (
	"slices"
	"testing"

	"tenancy/api"
	"tenancy/clock"
	"tenancy/desk"
	"tenancy/lease"
)

// lent is how many files the world's clients ask for.
const lent = 2

// near is a client: its own clock, in which mode and till when it holds each file by that, what it asked and was not told yet, when it asked that first.
type near struct {
	now   int
	files [lent + 1]terms
	seq   int
	out   bool
	asked api.Wait
	first int
}

// valid is the mode in which it holds the file near.
func (n near) valid(file int) int {
	if x := n.files[file]; n.now < x.until {
		return x.mode
	}
	return free
}

// world is a desk, its clock, whose asking came last and what each was told last, the clients, and what is on its way. Who asks in mode free gives back.
type world struct {
	d           api.Desk
	now         int
	seen        [clients + 1]int
	told        [clients + 1]api.Wait
	clients     [clients + 1]near
	asks, tells []api.Wait
	dice        dice
}

// pass lets real time go on; each clock gains as much as fits, mostly the least or the most.
func (w *world) pass(by int) {
	var fit []int
	for gain := range 2*by + 1 {
		if clock.Fits(by, gain, api.Eps) {
			fit = append(fit, gain)
		}
	}
	least, greatest := fit[0], fit[len(fit)-1]
	gain := func() int { return w.dice.of(least, least, greatest, greatest, w.dice.of(fit...)) }
	w.now += gain()
	for i := range w.clients {
		w.clients[i].now += gain()
	}
}

// send is what a client asks, or asks again.
func (w *world) send(client int) {
	n := &w.clients[client]
	if !n.out {
		n.seq++
		n.out, n.first, n.asked = true, n.now, wait(client, n.seq, 1+w.dice.below(lent), w.dice.of(free, reads, reads, wrote, wrote))
		if n.asked.Mode == free {
			n.files[n.asked.File] = terms{}
		}
	}
	w.asks = append(w.asks, n.asked)
}

// comes is one of what is on its way; it stays so where it comes twice. It may be lost.
func (w *world) comes(l *[]api.Wait) (x api.Wait, found bool) {
	if len(*l) == 0 {
		return x, false
	}
	i := w.dice.below(len(*l))
	x = (*l)[i]
	if w.dice.below(4) > 0 {
		*l = slices.Delete(*l, i, i+1)
	}
	return x, w.dice.below(5) > 0
}

// serve is what is done when x is asked: what is old is passed over, what was told is told again.
func (w *world) serve(x api.Wait) {
	switch c := x.Client; {
	case x.Seq < w.seen[c]:
	case x.Seq == w.told[c].Seq:
		w.tells = append(w.tells, w.told[c])
	case x.Mode == free:
		w.seen[c], w.d = x.Seq, desk.Give(w.d, c, x.File)
		w.done(x)
	default:
		w.seen[c] = x.Seq
		a := ask(w.d, w.now, x)
		if w.d = a.x; a.ok {
			w.done(x)
		}
	}
}

// done tells x's client in which mode it holds the file now.
func (w *world) done(x api.Wait) {
	x.Mode = lease.Holds(w.d.Leases, w.now, x.Client, x.File)
	w.told[x.Client] = x
	w.tells = append(w.tells, x)
}

// take is what a client does with what it is told: it counts from when it asked first, as it knows of no other moment that is behind no granting.
func (n *near) take(x api.Wait) {
	if !n.out || n.asked.Seq != x.Seq {
		return
	}
	n.out = false
	if until := n.first + clock.Short(api.Term, api.Eps); n.asked.Mode != free && n.now < until {
		n.files[x.File] = terms{x.Mode, max(n.files[x.File].until, until)}
	}
}

// step lets something happen.
func (w *world) step() {
	client := 1 + w.dice.below(clients)
	switch w.dice.below(12) {
	case 0, 1, 2:
		w.send(client)
	case 3, 4, 5:
		if x, ok := w.comes(&w.asks); ok {
			w.serve(x)
		}
	case 6, 7, 8:
		if x, ok := w.comes(&w.tells); ok {
			w.clients[x.Client].take(x)
		}
	case 9, 10:
		r := run(w.d, w.now)
		w.d = r.x
		for _, x := range r.let {
			w.done(x)
		}
	case 11:
		if w.dice.below(8) == 0 {
			// It crashes: it knows of nothing that it holds or asked any more, but asks under no number again.
			n := &w.clients[client]
			n.files, n.out = [lent + 1]terms{}, false
		}
	}
}

// TestWhoHoldsNearIsLent: whatever is lost, twice or late, whichever client crashes, however unlike clocks run within their bound: what one holds near by its own clock it holds by the desk, and nobody else may write it then, nor write near (W1, as far as the desk has a part in it).
func TestWhoHoldsNearIsLent(t *testing.T) {
	var held, late [wrote + 1]int
	for n := range 300 {
		w := world{dice: dice(n)}
		for range 500 {
			w.pass(w.dice.of(1, 1, 2, 5, 10))
			for range 1 + w.dice.below(8) {
				w.step()
			}
			for client := 1; client <= clients; client++ {
				for file := 1; file <= lent; file++ {
					mode := w.clients[client].valid(file)
					if mode == free {
						continue
					}
					held[mode]++
					if w.clients[client].files[file].until-w.clients[client].now <= 5 {
						late[mode]++
					}
					if lease.Holds(w.d.Leases, w.now, client, file) < mode || len(lease.Clash(w.d.Leases, w.now, client, file, mode)) > 0 {
						t.Fatalf("run %d: %d holds %d near in mode %d: %v at %d", n, client, file, mode, w.d, w.now)
					}
					if mode == wrote && w.holding(file) > 1 {
						t.Fatalf("run %d: %d writes %d near, others hold it near: %v", n, client, file, w.d)
					}
				}
			}
		}
	}
	if min(held[reads], held[wrote]) < 5000 || min(late[reads], late[wrote]) < 500 {
		t.Errorf("held near, by mode: %v, of these near its end: %v", held, late)
	}
}

// holding is how many hold the file near.
func (w *world) holding(file int) (count int) {
	for _, n := range w.clients {
		count += min(n.valid(file), 1)
	}
	return count
}
