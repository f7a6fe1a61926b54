package desk_test

import (
	"slices"
	"testing"

	"tenancy/api"
	"tenancy/desk"
	"tenancy/lease"
)

// queue is who has waited first for a file, since when.
type queue struct{ client, since int }

// hall is a desk, the time, and by file who has waited first for it.
type hall struct {
	d      api.Desk
	now    int
	firsts [files + 1]queue
}

// see brings firsts to what the line is now; who was first ahead of that, and is, has been since then.
func (h *hall) see() {
	for file, was := range h.firsts {
		h.firsts[file] = queue{}
		if w, waits := firstOf(h.d.Line, file); waits {
			h.firsts[file] = queue{w.Client, h.now}
			if was.client == w.Client {
				h.firsts[file] = was
			}
		}
	}
}

func firstOf(line []api.Wait, file int) (api.Wait, bool) {
	for _, w := range line {
		if w.File == file {
			return w, true
		}
	}
	return api.Wait{}, false
}

// waited is how long the one who has waited longest as the first for a file has done so.
func (h *hall) waited() (longest int) {
	for _, q := range h.firsts {
		if q.client != 0 {
			longest = max(longest, h.now-q.since)
		}
	}
	return longest
}

// sound says whether the desk is one that may be: the leases in order, nobody who writes beside another one, no lease longer than Term; each who waits once.
func (h *hall) sound() bool {
	for i, w := range h.d.Line {
		if slices.ContainsFunc(h.d.Line[:i], func(x api.Wait) bool { return x.Client == w.Client }) {
			return false
		}
	}
	long := slices.ContainsFunc(h.d.Leases, func(x api.Lease) bool { return x.Until > h.now+term })
	return !long && len(h.d.Line) <= room && lease.May(h.d.Leases) && alone(h.d.Leases, h.now)
}

// ask asks for w, and says whether it was granted, and whether another one had waited first for it.
func (h *hall) ask(w api.Wait) (ok, past bool) {
	first, waits := firstOf(h.d.Line, w.File)
	a := ask(h.d, h.now, w)
	h.d = a.x
	h.see()
	return a.ok, waits && first.Client != w.Client
}

// run lets who may be, and says how long the first of the line for each of these had waited, and whether each was that first, and holds for Term what it waited for.
func (h *hall) run() (since []int, ok bool) {
	r := run(h.d, h.now)
	line := slices.Clone(h.d.Line)
	for _, w := range r.let {
		if first, waits := firstOf(line, w.File); !waits || first != w || lease.Holds(r.x.Leases, h.now+term-1, w.Client, w.File) < w.Mode {
			return nil, false
		}
		line = slices.DeleteFunc(line, func(x api.Wait) bool { return x.Client == w.Client })
		if h.firsts[w.File].client == w.Client {
			since = append(since, h.now-h.firsts[w.File].since)
		}
	}
	h.d = r.x
	h.see()
	return since, slices.Equal(line, r.x.Line)
}

// habits are what clients do in a run: whether they give anything back, whether they turn to another file while they wait, of how many files.
type habits struct{ give, wander, files int }

// wait is what a client asks for.
func (h *hall) wait(throw *dice, is habits) api.Wait {
	w := wait(1+throw.below(clients), throw.below(99), 1+throw.below(is.files), reads+throw.below(2))
	i := slices.IndexFunc(h.d.Line, func(x api.Wait) bool { return x.Client == w.Client })
	if i >= 0 && is.wander == 0 {
		w.File = h.d.Line[i].File
	}
	return w
}

// TestInTime: who is first for a file is let have it behind Term at the latest, also where those who hold it are silent, or ask for it again and again; nobody is let have it past who came first (W4).
func TestInTime(t *testing.T) {
	waited := [term + 1]int{}
	for n := range 600 {
		throw, h := dice(n), hall{}
		is := habits{throw.below(2), throw.below(2), 1 + throw.below(2)}
		for range 250 {
			h.now += throw.below(3) * throw.below(5)
			w := h.wait(&throw, is)
			switch does := throw.below(4); {
			case does == 0:
				since, ok := h.run()
				if !ok {
					t.Fatalf("run %d at %d: not in order, or not for Term: %v", n, h.now, h.d)
				}
				if h.waited() >= term {
					t.Fatalf("run %d at %d: who waited first for Term is not let have it: %v, %v", n, h.now, h.firsts, h.d)
				}
				for _, s := range since {
					waited[min(s, term)]++
				}
			case does > 1:
				if ok, past := h.ask(w); ok && past {
					t.Fatalf("run %d at %d: %v is granted past who came first", n, h.now, w)
				}
			case is.give > 0:
				h.d = desk.Give(h.d, w.Client, w.File)
			}
			if !h.sound() {
				t.Fatalf("run %d at %d: %v", n, h.now, h.d)
			}
		}
	}
	if waited[0] < 100 || waited[term] < 100 {
		t.Errorf("by how long they had waited, so many were let: %v", waited)
	}
}

// TestTermIsWaited: just at Term behind its asking it is let, not ahead of that, when who held it asked at the same time, and asks each moment since.
func TestTermIsWaited(t *testing.T) {
	for _, mode := range []int{reads, wrote} {
		h := hall{now: 1000}
		h.ask(wait(1, 1, 4, wrote))
		h.ask(wait(2, 1, 4, mode))
		h.ask(wait(3, 1, 4, wrote))
		for ; h.now < 1000+term; h.now++ {
			if since, ok := h.run(); !ok || len(since) > 0 {
				t.Fatalf("at %d: %v", h.now, h.d)
			}
			if ok, _ := h.ask(wait(1, h.now, 4, wrote)); ok {
				t.Fatalf("at %d: %v", h.now, h.d)
			}
		}
		if since, ok := h.run(); !ok || !slices.Equal(since, []int{term}) || !slices.Equal(h.d.Leases, leases(held(2, 4, mode, 1000+2*term))) {
			t.Errorf("at %d: %v", h.now, h.d)
		}
	}
}

// TestTermIsWaitedByAsking: without any Run, too, who is first for a file has it when Term has gone by, by asking again; nobody else has it by that.
func TestTermIsWaitedByAsking(t *testing.T) {
	h := hall{now: 1000}
	h.ask(wait(1, 1, 2, reads))
	h.now++
	h.ask(wait(3, 1, 2, reads))
	h.ask(wait(2, 1, 2, wrote))
	for ; h.now < 1001+term; h.now++ {
		for _, w := range waits(wait(1, h.now, 2, reads), wait(2, h.now, 2, wrote), wait(3, h.now, 2, reads)) {
			if ok, _ := h.ask(w); ok {
				t.Fatalf("at %d %v is granted: %v", h.now, w, h.d)
			}
		}
	}
	if ok, _ := h.ask(wait(2, 9, 2, wrote)); !ok || !same(h.d, of(leases(held(2, 2, wrote, 1001+2*term)), waits(wait(1, 1000+term, 2, reads), wait(3, 1000+term, 2, reads)))) {
		t.Errorf("%v", h.d)
	}
}
