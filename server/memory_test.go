package server_test

import (
	"fmt"
	"math"
	"slices"
	"sync"
	"testing"

	"tenancy/api"
	"tenancy/server"
	"tenancy/state"
)

// inRoom is l in a list of its own that has spare room, in which something stands.
func inRoom[T any](l []T, behind ...T) []T {
	return slices.Concat(l, behind)[:len(l)]
}

// roomy is s in lists of its own that have spare room.
func roomy(s api.Server) api.Server {
	d, x := &s.Store.D, &s.Store.S
	d.Last, d.Wait = inRoom(d.Last, "spare", "room"), inRoom(d.Wait, api.Put{At: 1, B: "spare"}, api.Put{})
	x.Files, x.Marks = inRoom(x.Files, api.File{Name: "spare", Ver: 1}, api.File{}), inRoom(x.Marks, api.Mark{Seq: 9, File: 1}, api.Mark{})
	s.Desk.Leases, s.Desk.Line = inRoom(s.Desk.Leases, held(3, 6, wrote, farthest), held(1, 1, wrote, farthest)), inRoom(s.Desk.Line, wait(2, 9, 1, reads), wait(3, 9, 2, wrote))
	s.Seen, s.Told = inRoom(s.Seen, 99, 98), inRoom(s.Told, done(1, 9, 1, reads, 4, "spare"), done(2, 9, 1, reads, 4, "spare"))
	return s
}

// whole is s with all that its lists hold, their spare room too.
func whole(s api.Server) api.Server {
	d, x := &s.Store.D, &s.Store.S
	d.Last, d.Wait = d.Last[:cap(d.Last)], d.Wait[:cap(d.Wait)]
	x.Files, x.Marks = x.Files[:cap(x.Files)], x.Marks[:cap(x.Marks)]
	s.Desk.Leases, s.Desk.Line = s.Desk.Leases[:cap(s.Desk.Leases)], s.Desk.Line[:cap(s.Desk.Line)]
	s.Seen, s.Told = s.Seen[:cap(s.Seen)], s.Told[:cap(s.Told)]
	return s
}

// writeOver puts something else in the place of all that l holds, in spare room too.
func writeOver[T any](l []T, by T) {
	l = l[:cap(l)]
	for i := range l {
		l[i] = by
	}
}

// scratch writes over all that s's lists hold.
func scratch(s api.Server, by string) {
	writeOver(s.Store.D.Last, by)
	writeOver(s.Store.D.Wait, api.Put{At: 1, B: by})
	writeOver(s.Store.S.Files, api.File{Name: by, Ver: -9})
	writeOver(s.Store.S.Marks, api.Mark{Seq: -9, Ver: len(by)})
	writeOver(s.Desk.Leases, held(-9, -9, len(by), -9))
	writeOver(s.Desk.Line, wait(-9, len(by), -9, -9))
	writeOver(s.Seen, -len(by))
	writeOver(s.Told, done(-9, -9, -9, -9, -9, by))
}

// answer is what a call tells.
type answer struct {
	s  api.Server
	l  []api.Tell
	ok bool
}

func (a answer) is(b answer) bool { return alike(a.s, b.s) && slices.Equal(a.l, b.l) && a.ok == b.ok }

// cloned is a in memory of its own.
func (a answer) cloned() answer { return answer{clone(a.s), slices.Clone(a.l), a.ok} }

// messages are asks of all kinds, from all, to someServers; and what is none.
func messages(t *testing.T) map[string][]byte {
	x := write(1, "x")
	l := []api.Ask{open(2, 2, "bb"), open(1, 9, "new"), lend(2, 2, 2, reads), lend(1, 9, 2, wrote), lend(3, 9, 1, reads), lend(2, 2, 4, wrote), lend(3, 9, 3, reads), flush(1, 9, 1, x, x), flush(2, 2, 1, x), give(1, 9, 1, x), give(2, 2, 2), give(3, 9, 2, x), gone(1, 9, 1), gone(1, 9, 2), gone(2, 2, 5), lend(1, 5, 1, reads), give(3, 8, 1)}
	all := map[string][]byte{"nil": nil, "none": {}, "no message": []byte("no message")}
	for _, a := range l {
		for _, epoch := range []int{0, 3} {
			all[fmt.Sprintf("%+v of %d", a, epoch)] = bytesOf(t, in(epoch, a))
		}
	}
	return all
}

// calls are all ways to hand a server in.
func calls(t *testing.T) map[string]func(s api.Server) answer {
	all := map[string]func(s api.Server) answer{
		"Run": func(s api.Server) answer {
			x, l := server.Run(s)
			return answer{x, l, true}
		},
		"Boot": func(s api.Server) answer {
			x, ok := server.Boot(s.Store.D, s.Now)
			return answer{x, nil, ok}
		},
	}
	for what, b := range messages(t) {
		all["Comes of "+what] = func(s api.Server) answer {
			x, l := server.Comes(s, b)
			return answer{x, l, true}
		}
	}
	return all
}

// someServers are such as may be: new ones, with a desk of all kinds, hushed, armed, not live.
func someServers() []api.Server {
	l, line := leases(held(1, 1, wrote, 101), held(2, 2, reads, 100), held(3, 2, reads, 130), held(1, 3, wrote, 90)), waits(wait(2, 4, 1, reads), wait(3, 9, 4, wrote))
	one := desked(some(), l, line)
	hushed, dead, armed, down, late := clone(one), clone(one), clone(one), clone(one), clone(one)
	hushed.Hush, dead.Live, armed.Store.D.Arm, down.Store.D.Down, late.Now = 101, false, 3, true, 500
	free, filled := rich(), desked(packed(), nil, line[:1])
	free.Store.D.Wait, free.Store.D.Arm = nil, 0
	last := clone(one)
	last.Desk.Line = waits(wait(1, 3, 2, wrote))
	four := desked(some(), l, waits(wait(5, 1, 1, reads), wait(6, 1, 1, wrote), wait(7, 1, 2, reads), wait(8, 1, 2, reads)))
	return []api.Server{server.Start(5), one, hushed, dead, armed, down, late, free, filled, last, four, on(state.New())}
}

// far is a number of all kinds.
func (d *dice) far() int {
	return d.of(math.MinInt, math.MinInt+1, -1<<32, -1, 0, 1, 2, 3, 4, 6, 7, 60, most, most+1, 1<<32+1, farthest-59, farthest-1, farthest)
}

// near is one that may be, mostly.
func (d *dice) near() int { return d.of(1, 2, 3, d.far()) }

// many are up to n of what next makes.
func many[T any](d *dice, n int, next func() T) (l []T) {
	for range d.below(n + 1) {
		l = append(l, next())
	}
	return l
}

// odd is a server such as no call tells: lists of other lengths, numbers of all kinds.
func (d *dice) odd() api.Server {
	s := on(some())
	s.Desk.Leases = many(d, 9, func() api.Lease { return held(d.near(), d.near(), d.near(), d.far()) })
	s.Desk.Line = many(d, 7, func() api.Wait { return wait(d.near(), d.far(), d.near(), d.near()) })
	s.Now, s.Hush, s.Bad, s.Recalled = d.far(), d.of(0, d.far()), d.far(), d.far()
	turns := []func(){
		func() { s.Seen = many(d, 5, d.far) },
		func() {
			s.Told = many(d, 5, func() api.Tell { return done(d.far(), d.near(), d.far(), d.far(), d.far(), "told") })
		},
		func() {
			s.Store.S.Files = many(d, 8, func() api.File { return api.File{Name: one(d, "", "a", "bb", "a b"), Ver: d.far(), Body: "b"} })
		},
		func() { s.Store.S.Marks = many(d, 5, func() api.Mark { return api.Mark{Seq: d.near(), Ver: d.far()} }) },
		func() { s.Store.S.Epoch = d.far() },
		func() { s.Store.D.Arm, s.Store.D.Down = d.far(), d.below(2) == 0 },
		func() { s.Store.D.Last = many(d, 20, func() string { return one(d, "", "short", s.Store.D.Last[0]) }) },
		func() { s.Store.D.Wait = many(d, 4, func() api.Put { return api.Put{At: d.far(), B: "waits"} }) },
	}
	for _, turn := range turns {
		if d.below(4) == 0 {
			turn()
		}
	}
	return s
}

func someOdd() (l []api.Server) {
	throw := dice(30)
	for range 150 {
		l = append(l, throw.odd())
	}
	bare := api.Server{Live: true}
	return append(l, api.Server{}, bare, api.Server{Live: true, Seen: []int{0, 0, 0}, Told: make([]api.Tell, 3)}, api.Server{Live: true, Seen: make([]int, 3), Told: make([]api.Tell, 3), Store: api.Store{S: api.State{Marks: make([]api.Mark, 3), Epoch: 3}}})
}

// TestNothingHandedInIsChanged looks at the spare room, too, which changes no answer.
func TestNothingHandedInIsChanged(t *testing.T) {
	for name, call := range calls(t) {
		for n, s := range slices.Concat(someServers(), someOdd()[:40]) {
			wide := roomy(s)
			was := clone(whole(wide))
			got := call(wide)
			if !alike(whole(wide), was) {
				t.Errorf("%s of server %d changes it", name, n)
			}
			if want := call(clone(s)); !got.is(want) {
				t.Errorf("%s of server %d: %+v with spare room, %+v without", name, n, got, want)
			}
		}
	}
	for what, b := range messages(t) {
		wide := inRoom(b, 1, 2, 3)
		was := slices.Clone(wide[:cap(wide)])
		for n, s := range someServers() {
			got, l := server.Comes(s, wide)
			if !slices.Equal(wide[:cap(wide)], was) {
				t.Errorf("Comes of %s to server %d changes it", what, n)
			}
			writeOver(wide, '?')
			if want, told := server.Comes(s, b); !alike(got, want) || !slices.Equal(l, told) {
				t.Errorf("Comes of %s to server %d, with spare room, and when that is written over: %+v %+v, not %+v %+v", what, n, got, l, want, told)
			}
			copy(wide[:cap(wide)], was)
		}
	}
	for n, s := range slices.Concat(someServers(), someOdd()[:40]) {
		for _, x := range someServers() {
			a, b := roomy(s), roomy(x)
			was, wasOther := clone(whole(a)), clone(whole(b))
			if got := server.Same(a, b); got != alike(s, x) || !alike(whole(a), was) || !alike(whole(b), wasOther) {
				t.Errorf("Same of server %d: %v", n, got)
			}
		}
	}
}

// TestNewMemory: what is told and what was handed in may be changed, each without the other; so may what is told twice, and each list of what is told.
func TestNewMemory(t *testing.T) {
	for name, call := range calls(t) {
		for n, s := range slices.Concat(someServers(), someOdd()[:40]) {
			s = roomy(s)
			was := clone(whole(s))
			one, two := call(s), call(s)
			want := two.cloned()
			scratch(one.s, "one")
			if !alike(whole(s), was) || !two.is(want) || !slices.Equal(one.l, want.l) {
				t.Errorf("%s of server %d shares what it tells", name, n)
			}
			writeOver(one.l, done(-8, -8, -8, -8, -8, "other"))
			if !slices.ContainsFunc(one.s.Told[:cap(one.s.Told)], func(x api.Tell) bool { return x.Body != "one" }) {
				scratch(s, "in")
			} else {
				t.Errorf("%s of server %d tells one list twice", name, n)
			}
			if !two.is(want) {
				t.Errorf("%s of server %d keeps what it is handed", name, n)
			}
		}
	}
	one, two := server.Start(5), server.Start(5)
	scratch(one, "one")
	if again := server.Start(5); !alike(again, two) || two.Seen[0] != 0 || two.Told[0] != (api.Tell{}) || two.Store.D.Last[0] != string(make([]byte, 32)) {
		t.Errorf("Start tells the same memory twice: %+v", two)
	}
}

// emptied is s with each list of nothing in the other way.
func emptied(s api.Server) api.Server {
	turn(&s.Store.D.Last)
	turn(&s.Store.D.Wait)
	turn(&s.Store.S.Files)
	turn(&s.Store.S.Marks)
	turn(&s.Desk.Leases)
	turn(&s.Desk.Line)
	turn(&s.Seen)
	turn(&s.Told)
	return s
}

func turn[T any](l *[]T) {
	if len(*l) > 0 {
		return
	}
	if *l == nil {
		*l = []T{}
	} else {
		*l = nil
	}
}

// TestNilIsAnEmptyList: the one is taken as the other, and told as it.
func TestNilIsAnEmptyList(t *testing.T) {
	all := slices.Concat(someServers(), someOdd(), []api.Server{{}, {Live: true}})
	for name, call := range calls(t) {
		for n, s := range all {
			if a, b := call(s), call(emptied(s)); !a.is(b) {
				t.Errorf("%s of server %d: %+v, %+v", name, n, a, b)
			}
		}
	}
	for n, s := range all {
		if !server.Same(s, emptied(s)) || !server.Same(emptied(s), s) {
			t.Errorf("server %d is not as itself", n)
		}
	}
}

// TestOdd: they are borne; each call ends, leaves them as they were, answers the same again, and tells nothing beside a no.
func TestOdd(t *testing.T) {
	for name, call := range calls(t) {
		for n, s := range slices.Concat(someOdd(), someServers()) {
			was := clone(s)
			one, two := call(s), call(s)
			if !alike(s, was) || !one.is(two) {
				t.Errorf("%s of odd server %d: %+v, then %+v", name, n, one, two)
			}
			if !one.ok && !alike(one.s, api.Server{}) {
				t.Errorf("%s of odd server %d: no, and %+v", name, n, one)
			}
			if !s.Live && name != "Boot" && (len(one.l) > 0 || !alike(one.s, s)) {
				t.Errorf("%s of odd server %d, which does not live: %+v", name, n, one)
			}
		}
	}
	for _, now := range []int{math.MinInt, -1, farthest} {
		if s := server.Start(now); s.Now != now || s.Hush != 0 || !s.Live {
			t.Errorf("Start of %d: %+v", now, s)
		}
	}
}

// TestOddLists: where the lists are not as many, what comes is old, whatever it is.
func TestOddLists(t *testing.T) {
	for _, turn := range []func(s *api.Server){
		func(s *api.Server) { s.Seen = s.Seen[:2] }, func(s *api.Server) { s.Seen = append(s.Seen, 0) }, func(s *api.Server) { s.Told = s.Told[:2] }, func(s *api.Server) { s.Told = nil },
		func(s *api.Server) { s.Store.S.Marks = s.Store.S.Marks[:1] }, func(s *api.Server) { s.Seen, s.Told, s.Store.S.Marks = nil, nil, nil },
	} {
		s := on(some())
		turn(&s)
		for _, a := range []api.Ask{in(3, open(1, 9, "new")), in(3, lend(2, 1, 1, reads)), in(2, give(3, 9, 1)), in(3, gone(3, 9, 1))} {
			if got, l := server.Comes(s, bytesOf(t, a)); len(l) != 0 || !alike(got, s) {
				t.Errorf("%+v to %+v: %+v %+v", a, s, l, got)
			}
		}
	}
}

// TestOddWaits: who is let it is told, also one that there is not, of whom nothing is kept.
func TestOddWaits(t *testing.T) {
	for _, client := range []int{math.MinInt, -1, 0, 4, 5, 255, 257, farthest} {
		s := desked(some(), nil, waits(wait(client, 7, 2, reads)))
		got, l := server.Run(s)
		want := clone(s)
		want.Desk.Line = nil
		if !slices.Equal(l, tells(3, done(client, 7, 2, free, 7, "body"))) || !alike(got, want) {
			t.Errorf("%d: %+v %+v", client, l, got)
		}
	}
	for _, file := range []int{math.MinInt, -1, 0, 7, 8, 255, 257, farthest} {
		s := desked(some(), nil, waits(wait(2, 7, file, reads)))
		got, l := server.Run(s)
		want := clone(s)
		want.Desk.Line, want.Told[1] = nil, tells(3, done(2, 7, file, free, 0, ""))[0]
		if !slices.Equal(l, want.Told[1:2]) || !alike(got, want) {
			t.Errorf("file %d: %+v %+v", file, l, got)
		}
	}
}

// TestOddWaitsAhead: whoever waits behind one that there is not is let, told and called all the same.
func TestOddWaitsAhead(t *testing.T) {
	for _, odd := range []api.Wait{wait(9, 7, 2, reads), wait(0, 7, 2, reads), wait(-1, 7, 1, reads), wait(2, 7, 9, reads)} {
		s := desked(some(), leases(held(1, 4, wrote, 130)), waits(odd, wait(3, 9, 6, wrote), wait(2, 4, 4, reads)))
		if odd.Client == 2 {
			s.Desk.Line = s.Desk.Line[:2]
		}
		got, l := server.Run(s)
		told := tells(3, done(3, 9, 6, wrote, most-1, "twenty-four bytes of f.."))[0]
		if len(l) != len(s.Desk.Line) || l[1] != told || got.Told[2] != told || got.Recalled != len(l)-2 {
			t.Errorf("%+v: %+v %+v", odd, l, got)
		}
	}
}

// TestOddTold: what was told last is told again as it stands, whatever that is.
func TestOddTold(t *testing.T) {
	s := on(some())
	for _, told := range []api.Tell{{Seq: 9}, {Kind: 1, To: 3, Epoch: 8, Seq: 9, Err: busy, File: 4, Mode: 1, Ver: 2, Body: "told"}, {Kind: -7, To: farthest, Epoch: -1, Seq: 9, Body: "odd"}} {
		s.Told[1] = told
		if got, l := server.Comes(s, bytesOf(t, in(3, open(2, 9, "new")))); !slices.Equal(l, []api.Tell{told}) || !alike(got, s) {
			t.Errorf("%+v: %+v %+v", told, l, got)
		}
	}
}

// TestOddState: what may not last does not, and the server lives no more.
func TestOddState(t *testing.T) {
	s := on(some())
	s.Store.S.Files[2] = api.File{Ver: 4}
	for _, a := range []api.Ask{open(1, 9, "new"), open(2, 9, "a"), gone(3, 9, 3)} {
		if got, l := server.Comes(s, bytesOf(t, in(3, a))); len(l) != 0 || got.Live || got.Seen[a.From-1] != 9 {
			t.Errorf("%+v: %+v %+v", a, l, got)
		}
	}
}

// TestSameAgain: nothing is kept from call to call; many may call with the same server at one time.
func TestSameAgain(t *testing.T) {
	l, ways := someServers(), calls(t)
	var names []string
	for name := range ways {
		names = append(names, name)
	}
	slices.Sort(names)
	told := make([]string, 6)
	var all sync.WaitGroup
	for k := range told {
		all.Go(func() {
			for _, s := range l {
				for _, name := range names {
					told[k] += fmt.Sprint(ways[name](s))
				}
				told[k] += fmt.Sprint(server.Start(s.Now), server.Same(s, l[0]))
			}
		})
	}
	all.Wait()
	for k, x := range told {
		if x != told[0] {
			t.Errorf("caller %d is told otherwise", k)
		}
	}
}
