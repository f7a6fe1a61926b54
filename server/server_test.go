package server_test

import (
	"fmt"
	"slices"
	"strings"
	"testing"

	"tenancy/api"
	"tenancy/disk"
	"tenancy/image"
	"tenancy/server"
	"tenancy/state"
	"tenancy/store"
)

func TestExample(t *testing.T) {
	s := server.Start(0)
	if l := asks(t, &s, open(1, 1, "a")); !slices.Equal(l, tells(0, done(1, 1, 1, free, 1, ""))) {
		t.Errorf("Start, AskOpen: %+v", l)
	}
}

func TestStart(t *testing.T) {
	for _, now := range []int{0, 1, 5, 73, 74, 1 << 40, farthest} {
		want := api.Server{Store: store.Make(), Seen: []int{0, 0, 0}, Told: make([]api.Tell, 3), Now: now, Live: true}
		if s := server.Start(now); !alike(s, want) || len(s.Store.D.Last) != 19 || len(s.Store.S.Files) != files || len(s.Store.S.Marks) != clients {
			t.Errorf("Start of %d: %+v", now, s)
		}
	}
}

// TestStartIsNotHushed: what a new one has it may lend at once.
func TestStartIsNotHushed(t *testing.T) {
	s := server.Start(0)
	asks(t, &s, open(2, 1, "a"))
	if l := asks(t, &s, lend(2, 2, 1, wrote)); !slices.Equal(l, tells(0, done(2, 2, 1, wrote, 1, ""))) {
		t.Errorf("%+v", l)
	}
	if want := leases(held(2, 1, wrote, 60)); !slices.Equal(s.Desk.Leases, want) {
		t.Errorf("%+v", s.Desk)
	}
}

// TestBoot: what lasts is there, in an epoch of its own; nothing else of the one ahead.
func TestBoot(t *testing.T) {
	late := some()
	late.Epoch = most - 1
	for i, s := range []api.State{state.New(), some(), packed(), late} {
		was := on(s)
		was.Desk = api.Desk{Leases: leases(held(1, 1, wrote, 150)), Line: waits(wait(2, 9, 1, reads))}
		was.Seen, was.Told[1], was.Bad, was.Recalled, was.Hush = []int{9, 9, 9}, done(2, 9, 1, free, 1, ""), 5, 6, 7
		for now, hush := range map[int]int{0: 74, 1: 75, 100: 174, 1 << 40: 1<<40 + 74, farthest - 75: farthest - 1, farthest - 74: farthest, farthest - 73: farthest, farthest: farthest} {
			got, ok := server.Boot(was.Store.D, now)
			x := copied(s)
			x.Epoch++
			st, _ := store.Commit(must(t, was.Store.D), x)
			want := api.Server{Store: st, Seen: []int{s.Marks[0].Seq, s.Marks[1].Seq, s.Marks[2].Seq}, Told: make([]api.Tell, 3), Now: now, Hush: hush, Live: true}
			if !ok || !alike(got, want) || !alike(clone(got), want) {
				t.Errorf("Boot of %d at %d: %v %+v\nnot\n%+v", i, now, ok, got, want)
			}
			if again := must(t, got.Store.D); again.S.Epoch != s.Epoch+1 || len(got.Store.D.Wait) > 0 {
				t.Errorf("Boot of %d: %+v lasts", i, again)
			}
		}
	}
}

// must is what lasts on d.
func must(t *testing.T, d api.Disk) api.Store {
	t.Helper()
	st, ok := store.Open(d)
	if !ok {
		t.Fatalf("nothing lasts on %v", d)
	}
	return st
}

// TestBootOfTheLastEpoch: it is begun all the same, under the greatest number that there is.
func TestBootOfTheLastEpoch(t *testing.T) {
	s := some()
	s.Epoch = most
	got, ok := server.Boot(on(s).Store.D, 5)
	if !ok || got.Store.S.Epoch != most || !got.Live || got.Hush != 79 {
		t.Errorf("%v %+v", ok, got)
	}
}

// TestBootBehindACrash: of a commit that was under way there is all, or nothing, and Boot goes on from that.
func TestBootBehindACrash(t *testing.T) {
	was, next := on(some()), copied(some())
	next.Files[1].Body, next.Marks[1] = "other", api.Mark{Seq: 4, File: 2, Ver: 8}
	seen := map[int]int{}
	for arm := 1; arm <= 12; arm++ {
		for _, keep := range [][]int{nil, {32}, {32, 32, 32, 32, 32}, {7}, {-1, 40}} {
			d := was.Store.D
			d.Arm = arm
			st, _ := store.Commit(api.Store{D: d, S: was.Store.S}, next)
			got, ok := server.Boot(disk.Crash(st.D, keep), 9)
			seq := 0
			if ok && got.Store.S.Files[1].Body == "other" {
				seq = 4
			}
			seen[seq]++
			if !ok || got.Store.S.Epoch != 4 || !slices.Equal(got.Seen, []int{5, seq, 8}) || got.Store.S.Marks[1].Seq != seq {
				t.Errorf("at write %d, %v kept: %v %+v", arm, keep, ok, got)
			}
		}
	}
	if seen[0] < 10 || seen[4] < 10 {
		t.Errorf("%v", seen)
	}
}

// TestBootSaysNo where the store does: on opening, and on committing.
func TestBootSaysNo(t *testing.T) {
	d := on(packed()).Store.D
	none := func(what string, d api.Disk) {
		for _, now := range []int{0, 5, farthest} {
			if got, ok := server.Boot(d, now); ok || !alike(got, api.Server{}) {
				t.Errorf("Boot of %s at %d: %v %+v", what, now, ok, got)
			}
		}
	}
	down, few, many, other, torn := clone(api.Server{Store: api.Store{D: d}}).Store.D, d, d, d, d
	down.Down = true
	none("a disk that is down", down)
	none("nothing", api.Disk{})
	few.Last = slices.Clone(d.Last[:18])
	none("18 sectors", few)
	many.Last = append(slices.Clone(d.Last), d.Last[18])
	none("20 sectors", many)
	other.Last = slices.Repeat([]string{strings.Repeat("\x01", 32)}, 19)
	none("other bytes", other)
	torn.Last = slices.Repeat([]string{strings.Repeat("\x00", 31)}, 19)
	none("sectors too short", torn)
	yes := 0
	for arm := 1; arm <= 60; arm++ {
		armed := clone(api.Server{Store: api.Store{D: d}}).Store.D
		armed.Arm = arm
		st, ok := store.Open(armed)
		if ok {
			st, ok = store.Commit(st, state.Boot(st.S))
		}
		if !ok {
			none(fmt.Sprint("a disk whose power goes at write ", arm), armed)
			continue
		}
		yes++
		if got, ok := server.Boot(armed, 5); !ok || got.Store.D.Arm != st.D.Arm || !slices.Equal(got.Store.D.Last, st.D.Last) || got.Store.D.Down {
			t.Errorf("Boot of a disk whose power goes at write %d: %v %+v", arm, ok, got)
		}
	}
	if yes < 20 || yes > 58 {
		t.Errorf("of 60 disks whose power goes %d are booted", yes)
	}
}

// turns are changes of one thing each.
func turns() map[string]func(s *api.Server) {
	return map[string]func(s *api.Server){
		"a sector": func(s *api.Server) { s.Store.D.Last[18] = "x" }, "the first sector": func(s *api.Server) { s.Store.D.Last[0] = "" }, "a sector less": func(s *api.Server) { s.Store.D.Last = s.Store.D.Last[:18] },
		"what waits": func(s *api.Server) { s.Store.D.Wait[1].B = "x" }, "where it waits": func(s *api.Server) { s.Store.D.Wait[0].At++ }, "that it waits": func(s *api.Server) { s.Store.D.Wait = s.Store.D.Wait[:1] },
		"Arm": func(s *api.Server) { s.Store.D.Arm++ }, "Down": func(s *api.Server) { s.Store.D.Down = !s.Store.D.Down },
		"Epoch": func(s *api.Server) { s.Store.S.Epoch++ }, "a name": func(s *api.Server) { s.Store.S.Files[5].Name = "g" }, "a Ver": func(s *api.Server) { s.Store.S.Files[0].Ver++ }, "a body": func(s *api.Server) { s.Store.S.Files[1].Body += "\x00" }, "a file less": func(s *api.Server) { s.Store.S.Files = s.Store.S.Files[:5] },
		"a mark's Seq": func(s *api.Server) { s.Store.S.Marks[0].Seq++ }, "a mark's Err": func(s *api.Server) { s.Store.S.Marks[1].Err++ }, "a mark's File": func(s *api.Server) { s.Store.S.Marks[2].File++ }, "a mark's Ver": func(s *api.Server) { s.Store.S.Marks[2].Ver++ }, "a mark more": func(s *api.Server) { s.Store.S.Marks = append(s.Store.S.Marks, api.Mark{}) },
		"a lease's Client": func(s *api.Server) { s.Desk.Leases[0].Client++ }, "a lease's File": func(s *api.Server) { s.Desk.Leases[1].File++ }, "a lease's Mode": func(s *api.Server) { s.Desk.Leases[1].Mode++ }, "a lease's Until": func(s *api.Server) { s.Desk.Leases[0].Until++ }, "a lease less": func(s *api.Server) { s.Desk.Leases = s.Desk.Leases[1:] },
		"a wait's Client": func(s *api.Server) { s.Desk.Line[0].Client++ }, "a wait's Seq": func(s *api.Server) { s.Desk.Line[1].Seq++ }, "a wait's File": func(s *api.Server) { s.Desk.Line[1].File++ }, "a wait's Mode": func(s *api.Server) { s.Desk.Line[0].Mode++ }, "who waits first": func(s *api.Server) { slices.Reverse(s.Desk.Line) },
		"the first seen": func(s *api.Server) { s.Seen[0]++ }, "the last seen": func(s *api.Server) { s.Seen[2]-- }, "one seen more": func(s *api.Server) { s.Seen = append(s.Seen, 0) },
		"what was told first": func(s *api.Server) { s.Told[0].Kind++ }, "whom": func(s *api.Server) { s.Told[1].To++ }, "in which epoch": func(s *api.Server) { s.Told[1].Epoch++ }, "under which number": func(s *api.Server) { s.Told[2].Seq++ }, "why not": func(s *api.Server) { s.Told[2].Err++ }, "of which file": func(s *api.Server) { s.Told[0].File++ }, "in which mode": func(s *api.Server) { s.Told[0].Mode++ }, "of which Ver": func(s *api.Server) { s.Told[1].Ver++ }, "of which body": func(s *api.Server) { s.Told[2].Body = "x" }, "one told less": func(s *api.Server) { s.Told = s.Told[:2] },
		"Now": func(s *api.Server) { s.Now++ }, "Hush": func(s *api.Server) { s.Hush++ }, "Bad": func(s *api.Server) { s.Bad++ }, "Live": func(s *api.Server) { s.Live = !s.Live }, "Recalled": func(s *api.Server) { s.Recalled++ },
	}
}

// rich is a server in which there is something of each thing.
func rich() api.Server {
	s := on(some())
	s.Store.D.Wait, s.Store.D.Arm = []api.Put{{At: 3, B: "w"}, {At: 4}}, 9
	s.Desk = api.Desk{Leases: leases(held(1, 1, reads, 120), held(2, 2, reads, 130)), Line: waits(wait(1, 7, 2, wrote), wait(3, 9, 1, wrote))}
	s.Seen, s.Bad, s.Recalled, s.Hush = []int{7, 2, 9}, 3, 4, 5
	for i := range s.Told {
		s.Told[i] = done(1+i, 5+i, 2, reads, 7, "body")
	}
	return s
}

func TestSame(t *testing.T) {
	for i, s := range []api.Server{rich(), server.Start(0), {}, {Live: true}, on(packed())} {
		if x := clone(s); !server.Same(s, x) || !server.Same(x, s) || !server.Same(s, s) {
			t.Errorf("%d is not as its copy", i)
		}
	}
	for what, turn := range turns() {
		for _, up := range []bool{false, true} {
			s, x := rich(), rich()
			s.Live, x.Live = up, up
			turn(&x)
			if alike(s, x) || server.Same(s, x) || server.Same(x, s) || !server.Same(x, clone(x)) {
				t.Errorf("%s: %+v is as %+v", what, s, x)
			}
		}
	}
	if server.Same(api.Server{}, server.Start(0)) || server.Same(rich(), api.Server{}) {
		t.Error("nothing is as something")
	}
}

// behind is s when a, which is fresh, was told so; and turn of that.
func behind(s api.Server, a api.Ask, told []api.Tell, turn func(s *api.Server)) api.Server {
	s = clone(s)
	s.Seen[a.From-1] = a.Seq
	for _, x := range told {
		if x.Kind == 1 {
			s.Told[x.To-1] = x
		}
	}
	if turn != nil {
		turn(&s)
	}
	return s
}

// lasts has s's state last, changed so.
func lasts(t *testing.T, s *api.Server, turn func(x *api.State)) {
	t.Helper()
	x := copied(s.Store.S)
	turn(&x)
	var ok bool
	if s.Store, ok = store.Commit(s.Store, x); !ok {
		t.Fatalf("%+v does not last", x)
	}
}

// row is something that is asked: what is to be told, and how the server is to be another one by that.
type row struct {
	what string
	s    api.Server
	a    api.Ask
	want []api.Tell
	turn func(s *api.Server)
}

func check(t *testing.T, rows []row) {
	t.Helper()
	for _, x := range rows {
		got, l := server.Comes(x.s, bytesOf(t, x.a))
		if !slices.Equal(l, x.want) {
			t.Errorf("%s: %+v, not %+v", x.what, l, x.want)
		}
		if want := behind(x.s, x.a, x.want, x.turn); !alike(got, want) {
			t.Errorf("%s: %+v\nnot\n%+v", x.what, got, want)
		}
		if d, ok := store.Open(got.Store.D); !ok || !state.Same(d.S, got.Store.S) || len(got.Store.D.Wait) > 0 {
			t.Errorf("%s: %+v lasts, not %+v", x.what, d.S, got.Store.S)
		}
	}
}

// desked is a server at 100 with such a desk.
func desked(s api.State, l []api.Lease, line []api.Wait) api.Server {
	x := on(s)
	x.Desk = api.Desk{Leases: l, Line: line}
	return x
}

// marked has m last as client's mark, with turn of what lasts.
func marked(t *testing.T, client int, m api.Mark, turn func(x *api.State)) func(s *api.Server) {
	return func(s *api.Server) {
		lasts(t, s, func(x *api.State) {
			x.Marks[client-1] = m
			if turn != nil {
				turn(x)
			}
		})
	}
}

// TestOpen: who holds what, and who waits, has no part in it; also what is over stands as it does.
func TestOpen(t *testing.T) {
	l, line := leases(held(1, 2, wrote, 120), held(2, 4, reads, 99)), waits(wait(3, 1, 2, reads))
	s, p := desked(some(), l, line), desked(packed(), l, line)
	made := func(i int, name string) func(x *api.State) {
		return func(x *api.State) { x.Files[i] = api.File{Name: name, Ver: 1} }
	}
	check(t, []row{
		{"one that is there", s, in(3, open(2, 1, "bb")), tells(3, done(2, 1, 2, free, 7, "")), marked(t, 2, api.Mark{Seq: 1, File: 2, Ver: 7}, nil)},
		{"the last one", s, in(3, open(1, 9, "f")), tells(3, done(1, 9, 6, free, most-1, "")), marked(t, 1, api.Mark{Seq: 9, File: 6, Ver: most - 1}, nil)},
		{"a new one", s, in(3, open(2, most, "new")), tells(3, done(2, most, 3, free, 1, "")), marked(t, 2, api.Mark{Seq: most, File: 3, Ver: 1}, made(2, "new"))},
		{"a name of eight", s, in(3, open(3, 9, "~~~~~~~~")), tells(3, done(3, 9, 3, free, 1, "")), marked(t, 3, api.Mark{Seq: 9, File: 3, Ver: 1}, made(2, "~~~~~~~~"))},
		{"no room", p, in(3, open(1, 6, "g")), tells(3, no(1, 6, full)), marked(t, 1, api.Mark{Seq: 6, Err: full}, nil)},
		{"no room, but it is there", p, in(3, open(1, 6, "eeeeeeee")), tells(3, done(1, 6, 5, free, 3, "")), marked(t, 1, api.Mark{Seq: 6, File: 5, Ver: 3}, nil)},
	})
}

// TestLend: what is let is told as it is in the file, with the mode in which it is held then.
func TestLend(t *testing.T) {
	all := leases(held(1, 1, wrote, 120), held(2, 2, reads, 101), held(3, 2, reads, 130), held(1, 4, reads, 100), held(3, 6, wrote, 200))
	s := desked(some(), all, nil)
	desk := func(line []api.Wait, l ...api.Lease) func(s *api.Server) {
		return func(s *api.Server) { s.Desk = api.Desk{Leases: l, Line: line} }
	}
	a, b, c, f := all[0], all[1], all[2], all[4]
	check(t, []row{
		{"no such file", s, in(3, lend(2, 1, 3, reads)), tells(3, no(2, 1, none)), nil},
		{"no such file, to write", s, in(3, lend(2, 1, 5, wrote)), tells(3, no(2, 1, none)), nil},
		{"a free one", s, in(3, lend(2, 1, 4, reads)), tells(3, done(2, 1, 4, reads, most, "\xff\x00")), desk(nil, a, b, c, held(2, 4, reads, 160), f)},
		{"a free one, to write", s, in(3, lend(2, 1, 4, wrote)), tells(3, done(2, 1, 4, wrote, most, "\xff\x00")), desk(nil, a, b, c, held(2, 4, wrote, 160), f)},
		{"beside readers", s, in(3, lend(1, 6, 2, reads)), tells(3, done(1, 6, 2, reads, 7, "body")), desk(nil, a, held(1, 2, reads, 160), b, c, f)},
		{"its own again", s, in(3, lend(1, 6, 1, wrote)), tells(3, done(1, 6, 1, wrote, 1, "")), desk(nil, held(1, 1, wrote, 160), b, c, f)},
		{"its own to read, which it may write", s, in(3, lend(1, 6, 1, reads)), tells(3, done(1, 6, 1, wrote, 1, "")), desk(nil, held(1, 1, wrote, 160), b, c, f)},
		{"its own, for longer than Term", s, in(3, lend(3, 9, 6, wrote)), tells(3, done(3, 9, 6, wrote, most-1, "twenty-four bytes of f..")), desk(nil, a, b, c, f)},
		{"a reader's, to write", s, in(3, lend(2, 1, 2, wrote)), tells(3, recall(3, 2)), desk(waits(wait(2, 1, 2, wrote)), a, b, c, f)},
		{"two readers', to write", s, in(3, lend(1, 6, 2, wrote)), tells(3, recall(2, 2), recall(3, 2)), desk(waits(wait(1, 6, 2, wrote)), a, b, c, f)},
		{"a writer's, to read", s, in(3, lend(2, 1, 1, reads)), tells(3, recall(1, 1)), desk(waits(wait(2, 1, 1, reads)), a, b, c, f)},
		{"a writer's, to write", s, in(3, lend(2, 1, 6, wrote)), tells(3, recall(3, 6)), desk(waits(wait(2, 1, 6, wrote)), a, b, c, f)},
	})
	late := s
	late.Now = 130
	check(t, []row{
		{"what is over", late, in(3, lend(2, 1, 1, reads)), tells(3, done(2, 1, 1, reads, 1, "")), desk(nil, held(2, 1, reads, 190), f)},
		{"its own that is over", late, in(3, lend(1, 6, 1, reads)), tells(3, done(1, 6, 1, reads, 1, "")), desk(nil, held(1, 1, reads, 190), f)},
		{"no such file, late", late, in(3, lend(1, 6, 3, reads)), tells(3, no(1, 6, none)), nil},
		{"what readers had", late, in(3, lend(1, 6, 2, wrote)), tells(3, done(1, 6, 2, wrote, 7, "body")), desk(nil, held(1, 2, wrote, 190), f)},
	})
	late.Now = 129
	check(t, []row{
		{"what a reader has for a moment still", late, in(3, lend(1, 6, 2, wrote)), tells(3, recall(3, 2)), desk(waits(wait(1, 6, 2, wrote)), c, f)},
	})
	late.Now = farthest
	check(t, []row{
		{"at the end of all time", late, in(3, lend(1, 6, 2, wrote)), tells(3, done(1, 6, 2, free, 7, "body")), desk(nil, held(1, 2, wrote, farthest))},
	})
}

// TestLendInTheLine: who came first for a file keeps it from who comes behind; of each client one waits.
func TestLendInTheLine(t *testing.T) {
	a, b := wait(2, 5, 1, reads), wait(1, 7, 1, wrote)
	s := desked(some(), nil, waits(a, b))
	desk := func(line []api.Wait, l ...api.Lease) func(s *api.Server) {
		return func(s *api.Server) { s.Desk = api.Desk{Leases: l, Line: line} }
	}
	four := waits(wait(5, 1, 1, reads), wait(6, 1, 1, wrote), wait(7, 1, 1, reads), wait(8, 1, 2, reads))
	over, read := held(1, 4, reads, 100), held(3, 2, reads, 101)
	fullDesk := desked(some(), leases(read, over), four)
	check(t, []row{
		{"behind others", s, in(3, lend(3, 9, 1, reads)), nil, desk(waits(a, b, wait(3, 9, 1, reads)))},
		{"behind another one, again", s, in(3, lend(1, 8, 1, reads)), nil, desk(waits(a, wait(1, 8, 1, reads)))},
		{"the first one", s, in(3, lend(2, 6, 1, wrote)), tells(3, done(2, 6, 1, wrote, 1, "")), desk(waits(b), held(2, 1, wrote, 160))},
		{"another file", s, in(3, lend(1, 9, 2, reads)), tells(3, done(1, 9, 2, reads, 7, "body")), desk(waits(a), held(1, 2, reads, 160))},
		{"no such file", s, in(3, lend(2, 9, 3, reads)), tells(3, no(2, 9, none)), nil},
		{"no room", fullDesk, in(3, lend(2, 9, 2, wrote)), tells(3, no(2, 9, full)), desk(four, read)},
		{"no room, behind others", fullDesk, in(3, lend(2, 9, 1, reads)), tells(3, no(2, 9, full)), desk(four, read)},
		{"it needs no room", fullDesk, in(3, lend(2, 9, 4, reads)), tells(3, done(2, 9, 4, reads, most, "\xff\x00")), desk(four, read, held(2, 4, reads, 160))},
	})
}

// TestFlush: who holds it to write, at that moment, writes it; all that is written comes to last, and who holds it holds it still.
func TestFlush(t *testing.T) {
	l := leases(held(1, 1, wrote, 101), held(2, 2, wrote, 100), held(3, 2, reads, 130), held(1, 3, wrote, 130), held(3, 4, wrote, 130), held(2, 6, wrote, 130))
	s := desked(some(), l, waits(wait(2, 5, 1, reads), wait(1, 5, 4, reads)))
	is := func(i, ver int, body string) func(x *api.State) {
		return func(x *api.State) { x.Files[i].Ver, x.Files[i].Body = ver, body }
	}
	x := write(0, "x")
	check(t, []row{
		{"its own", s, in(3, flush(1, 6, 1, x)), tells(3, done(1, 6, 1, free, 2, "")), marked(t, 1, api.Mark{Seq: 6, File: 1, Ver: 2}, is(0, 2, "x"))},
		{"many writes", s, in(3, flush(2, 1, 6, x, write(1, "yy"), write(2, "zz"), write(23, "!"), write(0, "X"))), tells(3, done(2, 1, 6, free, most, "")), marked(t, 2, api.Mark{Seq: 1, File: 6, Ver: most}, is(5, most, "Xyzzty-four bytes of f.!"))},
		{"of the greatest Ver", s, in(3, flush(3, 9, 4, write(3, "y"))), tells(3, done(3, 9, 4, free, most, "")), marked(t, 3, api.Mark{Seq: 9, File: 4, Ver: most}, is(3, most, "\xff\x00\x00y"))},
		{"what it reads", s, in(3, flush(3, 9, 2, x)), tells(3, no(3, 9, lost)), nil},
		{"what it held till now", s, in(3, flush(2, 1, 2, x)), tells(3, no(2, 1, lost)), nil},
		{"what another one writes", s, in(3, flush(2, 1, 1, x)), tells(3, no(2, 1, lost)), nil},
		{"what another one writes, and it waits for", s, in(3, flush(1, 6, 4, x)), tells(3, no(1, 6, lost)), nil},
		{"what nobody holds", desked(some(), nil, nil), in(3, flush(2, 1, 1, x)), tells(3, no(2, 1, lost)), nil},
		{"what there is not", s, in(3, flush(1, 6, 3, x)), tells(3, no(1, 6, lost)), nil},
		{"what there is not, nor is held", s, in(3, flush(1, 6, 5, x)), tells(3, no(1, 6, lost)), nil},
	})
}

// TestGive: whatever comes of what is written, its lease goes, that one alone; who waits waits still.
func TestGive(t *testing.T) {
	l := leases(held(1, 1, wrote, 101), held(1, 2, reads, 130), held(3, 2, reads, 130), held(1, 3, wrote, 130), held(1, 4, wrote, 100), held(2, 6, wrote, 130))
	s := desked(some(), l, waits(wait(2, 5, 1, reads), wait(1, 5, 6, reads)))
	x := write(1, "x")
	without := func(i int) func(s *api.Server) {
		return func(s *api.Server) { s.Desk.Leases = slices.Delete(slices.Clone(l), i, i+1) }
	}
	both := func(one, other func(s *api.Server)) func(s *api.Server) {
		return func(s *api.Server) {
			one(s)
			other(s)
		}
	}
	written := marked(t, 1, api.Mark{Seq: 6, File: 1, Ver: 2}, func(x *api.State) { x.Files[0].Ver, x.Files[0].Body = 2, "\x00x" })
	check(t, []row{
		{"what it writes", s, in(3, give(1, 6, 1)), tells(3, done(1, 6, 1, free, 0, "")), without(0)},
		{"what it reads", s, in(3, give(1, 6, 2)), tells(3, done(1, 6, 2, free, 0, "")), without(1)},
		{"what there is not", s, in(3, give(1, 6, 3)), tells(3, done(1, 6, 3, free, 0, "")), without(3)},
		{"what is over", s, in(3, give(1, 6, 4)), tells(3, done(1, 6, 4, free, 0, "")), without(4)},
		{"what it does not hold", s, in(3, give(3, 9, 1)), tells(3, done(3, 9, 1, free, 0, "")), nil},
		{"what nobody holds, nor is there", s, in(3, give(3, 9, 5)), tells(3, done(3, 9, 5, free, 0, "")), nil},
		{"with writes", s, in(3, give(1, 6, 1, x)), tells(3, done(1, 6, 1, free, 2, "")), both(written, without(0))},
		{"with writes, what it reads", s, in(3, give(1, 6, 2, x)), tells(3, no(1, 6, lost)), without(1)},
		{"with writes, what there is not", s, in(3, give(1, 6, 3, x)), tells(3, no(1, 6, lost)), without(3)},
		{"with writes, what is over", s, in(3, give(1, 6, 4, x)), tells(3, no(1, 6, lost)), without(4)},
		{"with writes, what it does not hold", s, in(3, give(1, 6, 6, x)), tells(3, no(1, 6, lost)), nil},
	})
}

// TestGone: what another one holds or waits for stays; else it is no more, with what its client held of it and waited for.
func TestGone(t *testing.T) {
	l := leases(held(1, 1, wrote, 130), held(2, 1, reads, 100), held(2, 2, reads, 101), held(3, 4, wrote, 101), held(1, 5, wrote, 130), held(1, 6, wrote, 130))
	plain := desked(some(), l, nil)
	without := func(client, file int, line ...api.Wait) func(s *api.Server) {
		return func(s *api.Server) {
			m := api.Mark{Seq: 9, File: file}
			if s.Store.S.Files[file-1].Name == "" {
				m = api.Mark{Seq: 9, Err: none}
			}
			marked(t, client, m, func(x *api.State) { x.Files[file-1] = api.File{} })(s)
			s.Desk.Leases = slices.DeleteFunc(slices.Clone(s.Desk.Leases), func(x api.Lease) bool { return x.Client == client && x.File == file })
			s.Desk.Line = line
		}
	}
	other, own, behind := wait(2, 5, 1, reads), wait(1, 5, 1, reads), wait(3, 5, 1, reads)
	lined := func(line ...api.Wait) api.Server { return desked(some(), l[:1], line) }
	odd := wait(3, 5, 3, reads)
	goneBy := func(client, file int) []api.Tell { return tells(3, done(client, 9, file, free, 0, "")) }
	check(t, []row{
		{"its own", plain, in(3, gone(1, 9, 1)), goneBy(1, 1), without(1, 1)},
		{"what nobody holds any more", desked(some(), l[1:], nil), in(3, gone(1, 9, 1)), goneBy(1, 1), without(1, 1)},
		{"what nobody holds", desked(some(), nil, nil), in(3, gone(3, 9, 6)), goneBy(3, 6), without(3, 6)},
		{"what another one reads", plain, in(3, gone(1, 9, 2)), tells(3, no(1, 9, busy)), nil},
		{"what another one writes", plain, in(3, gone(1, 9, 4)), tells(3, no(1, 9, busy)), nil},
		{"what another one reads, beside it", desked(some(), leases(held(1, 1, reads, 130), held(2, 1, reads, 101)), nil), in(3, gone(1, 9, 1)), tells(3, no(1, 9, busy)), nil},
		{"what another one waits for", lined(other), in(3, gone(1, 9, 1)), tells(3, no(1, 9, busy)), nil},
		{"what others wait for, ahead of it", lined(other, own), in(3, gone(1, 9, 1)), tells(3, no(1, 9, busy)), nil},
		{"what others wait for, behind it", lined(own, other, behind), in(3, gone(1, 9, 1)), tells(3, no(1, 9, busy)), nil},
		{"what it waits for alone", lined(own), in(3, gone(1, 9, 1)), goneBy(1, 1), without(1, 1)},
		{"what it does not wait for", lined(own, wait(2, 5, 2, reads)), in(3, gone(1, 9, 4)), goneBy(1, 4), without(1, 4, wait(2, 5, 2, reads))},
		{"what there is not", plain, in(3, gone(2, 9, 3)), tells(3, no(2, 9, none)), without(2, 3)},
		{"what there is not, and it holds", plain, in(3, gone(1, 9, 5)), tells(3, no(1, 9, none)), without(1, 5)},
		{"what there is not, and it waits for", lined(other, odd), in(3, gone(3, 9, 3)), tells(3, no(3, 9, none)), without(3, 3, other)},
		{"what there is not, and another one waits for", lined(odd), in(3, gone(1, 9, 3)), tells(3, no(1, 9, busy)), nil},
		{"what there is not, and another one holds", plain, in(3, gone(2, 9, 5)), tells(3, no(2, 9, busy)), nil},
	})
}

// TestHush: ahead of it nothing is done, of whatever kind; it is told so, and told so again.
func TestHush(t *testing.T) {
	for _, hush := range []int{101, 174, farthest} {
		s := desked(some(), leases(held(1, 1, wrote, 130)), nil)
		s.Hush = hush
		for _, now := range []int{0, 99, 100, hush - 1} {
			s.Now = now
			for _, a := range []api.Ask{open(1, 9, "bb"), open(1, 9, "new"), lend(1, 9, 2, reads), lend(1, 9, 3, reads), flush(1, 9, 1, write(0, "x")), give(1, 9, 1), give(1, 9, 1, write(0, "x")), gone(1, 9, 1)} {
				want := tells(3, no(1, 9, hushy))
				check(t, []row{{fmt.Sprintf("%+v at %d, hushed till %d", a, now, hush), s, in(3, a), want, nil}})
				x := clone(s)
				asks(t, &x, in(3, a))
				x.Now = hush
				was := clone(x)
				if l := asks(t, &x, in(3, a)); !slices.Equal(l, want) || !alike(x, was) {
					t.Errorf("%+v, again behind it: %+v", a, l)
				}
				a.Seq++
				if l := asks(t, &x, in(3, a)); len(l) != 1 || l[0].Err == hushy {
					t.Errorf("%+v behind it: %+v", a, l)
				}
			}
		}
	}
}

// TestNoMessage: it is counted, and nothing else.
func TestNoMessage(t *testing.T) {
	s := rich()
	good := bytesOf(t, in(3, open(1, 9, "new")))
	l := [][]byte{nil, {}, []byte("abc"), good[1:], good[:len(good)-1], append(slices.Clone(good), 0), make([]byte, 300)}
	for i := range good {
		for _, bit := range []byte{1, 16, 128} {
			b := slices.Clone(good)
			b[i] ^= bit
			l = append(l, b)
		}
	}
	for _, b := range l {
		for bad, want := range map[int]int{0: 1, 7: 8, most - 1: most, most: most} {
			s.Bad = bad
			got, told := server.Comes(s, b)
			x := clone(s)
			if x.Bad = want; len(told) != 0 || !alike(got, x) {
				t.Errorf("%v, with %d: %v %+v", b, bad, told, got)
			}
		}
	}
}

// TestNotLive: nothing is done, told or counted.
func TestNotLive(t *testing.T) {
	s := rich()
	s.Live, s.Now = false, 500
	for _, b := range [][]byte{nil, []byte("abc"), bytesOf(t, in(3, open(1, 9, "new"))), bytesOf(t, in(3, lend(2, 9, 4, reads))), bytesOf(t, in(7, gone(2, 9, 4))), bytesOf(t, in(3, give(1, 9, 1))), bytesOf(t, in(3, give(1, 5, 1)))} {
		if got, l := server.Comes(s, b); len(l) != 0 || !alike(got, s) {
			t.Errorf("%v: %v %+v", b, l, got)
		}
	}
	if got, l := server.Run(s); len(l) != 0 || !alike(got, s) {
		t.Errorf("Run: %v %+v", l, got)
	}
}

// TestJudged: what is of another epoch, old, or was done is not done; what is told of it changes nothing, at any time.
func TestJudged(t *testing.T) {
	for _, hush := range []int{0, 99, 500} {
		s := rich()
		s.Hush, s.Told[2], s.Seen[1] = hush, tells(3, done(3, 9, 6, wrote, 4, "told"))[0], 4
		s.Store.S.Marks[1] = api.Mark{Seq: 4, Err: full, File: 1, Ver: 9}
		s.Told[1] = api.Tell{}
		for _, x := range []struct {
			a    api.Ask
			want []api.Tell
		}{
			{in(2, open(1, 9, "bb")), tells(3, api.Tell{Kind: 3, To: 1})}, {in(4, lend(2, 1, 1, reads)), tells(3, api.Tell{Kind: 3, To: 2})}, {in(0, give(3, 9, 1)), tells(3, api.Tell{Kind: 3, To: 3})}, {in(most, gone(1, 8, 1)), tells(3, api.Tell{Kind: 3, To: 1})},
			{in(3, open(1, 6, "bb")), nil}, {in(3, give(1, 1, 1)), nil}, {in(3, lend(3, 8, 1, wrote)), nil}, {in(3, gone(2, 3, 4)), nil},
			{in(3, lend(3, 9, 6, wrote)), s.Told[2:]}, {in(3, open(3, 9, "new")), s.Told[2:]}, {in(3, gone(3, 9, 4)), s.Told[2:]},
			{in(3, open(2, 4, "new")), tells(3, api.Tell{Kind: 1, To: 2, Seq: 4, Err: full, File: 1, Ver: 9})}, {in(3, give(2, 4, 2)), tells(3, api.Tell{Kind: 1, To: 2, Seq: 4, Err: full, File: 1, Ver: 9})},
		} {
			if got, l := server.Comes(s, bytesOf(t, x.a)); !slices.Equal(l, x.want) || !alike(got, s) {
				t.Errorf("%+v: %+v, not %+v; %+v", x.a, l, x.want, got)
			}
		}
	}
}

// TestSeen: under the number that was seen last it is fresh, as long as it waits; so it is let by asking, too.
func TestSeen(t *testing.T) {
	s := desked(some(), leases(held(1, 2, wrote, 130)), nil)
	a := in(3, lend(2, 6, 2, reads))
	for range 3 {
		if l := asks(t, &s, a); !slices.Equal(l, tells(3, recall(1, 2))) || s.Seen[1] != 6 || len(s.Desk.Line) != 1 || s.Recalled != 0 {
			t.Errorf("%+v, %+v", l, s)
		}
	}
	s.Now = 130
	want := tells(3, done(2, 6, 2, reads, 7, "body"))
	for range 3 {
		if l := asks(t, &s, a); !slices.Equal(l, want) || s.Seen[1] != 6 || len(s.Desk.Line) != 0 || s.Told[1] != want[0] {
			t.Errorf("%+v, %+v", l, s)
		}
		s.Now = 150
	}
	if want := leases(held(2, 2, reads, 190)); !slices.Equal(s.Desk.Leases, want) {
		t.Errorf("%+v", s.Desk)
	}
}

// runRow is a Run: of whom what is told, and how the server is to be another one by that.
type runRow struct {
	what string
	s    api.Server
	want []api.Tell
	desk api.Desk
	more int
}

// TestRun: who may be is let, in order, told so, and that is kept; then who keeps others waiting is called, and counted.
func TestRun(t *testing.T) {
	desk := func(line []api.Wait, l ...api.Lease) api.Desk { return api.Desk{Leases: l, Line: line} }
	a, b, c := held(1, 1, wrote, 101), held(1, 2, reads, 100), held(3, 2, reads, 101)
	w1, r2, w2 := wait(2, 4, 1, wrote), wait(3, 9, 1, reads), wait(1, 9, 2, wrote)
	one := done(2, 4, 1, wrote, 1, "")
	for _, x := range []runRow{
		{"nobody", desked(some(), nil, nil), nil, desk(nil), 0},
		{"nobody waits", desked(some(), leases(a, b, c), nil), nil, desk(nil, a, c), 0},
		{"let", desked(some(), nil, waits(w1)), tells(3, one), desk(nil, held(2, 1, wrote, 160)), 0},
		{"called", desked(some(), leases(a), waits(w1)), tells(3, recall(1, 1)), desk(waits(w1), a), 1},
		{"called once", desked(some(), leases(a), waits(w1, r2)), tells(3, recall(1, 1)), desk(waits(w1, r2), a), 1},
		{"let, and another one waits for that", desked(some(), nil, waits(w1, r2)), tells(3, one, recall(2, 1)), desk(waits(r2), held(2, 1, wrote, 160)), 1},
		{"two let", desked(some(), nil, waits(r2, w2)), tells(3, done(3, 9, 1, reads, 1, ""), done(1, 9, 2, wrote, 7, "body")), desk(nil, held(3, 1, reads, 160), held(1, 2, wrote, 160)), 0},
		{"two let, the other way", desked(some(), nil, waits(w2, r2)), tells(3, done(1, 9, 2, wrote, 7, "body"), done(3, 9, 1, reads, 1, "")), desk(nil, held(3, 1, reads, 160), held(1, 2, wrote, 160)), 0},
		{"two called", desked(some(), leases(a, b, c), waits(w2, w1)), tells(3, recall(3, 2), recall(1, 1)), desk(waits(w2, w1), a, c), 2},
		{"let what it reads to write", desked(some(), leases(held(1, 2, reads, 190)), waits(w2)), tells(3, done(1, 9, 2, wrote, 7, "body")), desk(nil, held(1, 2, wrote, 190)), 0},
		{"let what it writes to read", desked(some(), leases(held(3, 1, wrote, 110)), waits(r2)), tells(3, done(3, 9, 1, wrote, 1, "")), desk(nil, held(3, 1, wrote, 160)), 0},
		{"let what there is not", desked(some(), nil, waits(wait(2, 4, 3, reads))), tells(3, done(2, 4, 3, reads, 0, "")), desk(nil, held(2, 3, reads, 160)), 0},
		{"let and called", desked(some(), leases(c), waits(r2, w2)), tells(3, done(3, 9, 1, reads, 1, ""), recall(3, 2)), desk(waits(w2), held(3, 1, reads, 160), c), 1},
	} {
		for was, is := range map[int]int{0: x.more, 7: 7 + x.more, most - 1: most - 1 + min(1, x.more), most: most} {
			x.s.Recalled = was
			got, l := server.Run(x.s)
			want := clone(x.s)
			want.Desk, want.Recalled = x.desk, is
			for _, y := range l {
				if y.Kind == 1 {
					want.Told[y.To-1] = y
				}
			}
			if !slices.Equal(l, x.want) || !alike(got, want) {
				t.Errorf("%s, %d recalled: %+v, not %+v\n%+v\nnot\n%+v", x.what, was, l, x.want, got, want)
			}
		}
	}
}

// TestRunHushed: ahead of that moment nobody is let or called, and what is over stays; from then on not so.
func TestRunHushed(t *testing.T) {
	s := desked(some(), leases(held(1, 1, wrote, 90), held(1, 2, wrote, 600)), waits(wait(2, 4, 1, wrote), wait(3, 9, 2, reads)))
	for _, hush := range []int{101, 400} {
		s.Hush = hush
		for _, now := range []int{0, 99, hush - 1} {
			s.Now = now
			if got, l := server.Run(s); len(l) != 0 || !alike(got, s) {
				t.Errorf("at %d, hushed till %d: %+v %+v", now, hush, l, got)
			}
		}
		s.Now = hush
		if got, l := server.Run(s); !slices.Equal(l, tells(3, done(2, 4, 1, wrote, 1, ""), recall(1, 2))) || len(got.Desk.Line) != 1 || got.Recalled != 1 {
			t.Errorf("at %d: %+v %+v", hush, l, got)
		}
	}
}

// TestToldIsWhatWasToldLast: also where it was asked ahead of what was told before; what is seen stays.
func TestToldIsWhatWasToldLast(t *testing.T) {
	s := desked(some(), leases(held(1, 2, wrote, 130)), nil)
	asks(t, &s, in(3, lend(2, 6, 2, reads)))
	asks(t, &s, in(3, lend(2, 7, 3, reads)))
	if s.Told[1] != tells(3, no(2, 7, none))[0] || len(s.Desk.Line) != 1 {
		t.Fatalf("%+v", s)
	}
	s.Now = 130
	want := tells(3, done(2, 6, 2, reads, 7, "body"))
	if l := runs(&s); !slices.Equal(l, want) || s.Told[1] != want[0] || s.Seen[1] != 7 {
		t.Errorf("%+v %+v", l, s)
	}
	if l := asks(t, &s, in(3, lend(2, 6, 2, reads))); len(l) != 0 {
		t.Errorf("%+v", l)
	}
}

// TestPowerGoes: what was seen is, the disk is as it is then; nothing more is done, nothing is told, and it lives no more.
func TestPowerGoes(t *testing.T) {
	base := desked(some(), leases(held(1, 1, wrote, 130), held(2, 2, reads, 90)), waits(wait(1, 5, 2, reads)))
	base.Told[0] = tells(3, done(1, 5, 4, free, 2, ""))[0]
	for _, a := range []api.Ask{open(1, 9, "bb"), open(1, 9, "new"), flush(1, 9, 1, write(0, "x")), give(1, 9, 1, write(0, "x")), gone(1, 9, 1), gone(1, 9, 3)} {
		whole := clone(base)
		if l := asks(t, &whole, in(3, a)); len(l) != 1 || !whole.Live {
			t.Fatalf("%+v: %+v %+v", a, l, whole)
		}
		n := len(image.Diff(image.Put(base.Store.S), image.Put(whole.Store.S)))
		for arm := 1; arm <= 2*n+2; arm++ {
			s := clone(base)
			s.Store.D.Arm = arm
			want := behind(s, a, nil, func(x *api.Server) {
				x.Store, x.Live = store.Commit(x.Store, whole.Store.S)
			})
			if got, l := server.Comes(s, bytesOf(t, in(3, a))); len(l) != 0 || got.Live || !got.Store.D.Down || !alike(got, want) || !state.Same(got.Store.S, base.Store.S) {
				t.Errorf("%+v, at write %d: %+v %+v\nnot\n%+v", a, arm, l, got, want)
			}
		}
		s := clone(base)
		s.Store.D.Arm = 2*n + 3
		if l := asks(t, &s, in(3, a)); len(l) != 1 || !s.Live || s.Store.D.Arm != 1 {
			t.Errorf("%+v, behind the last write: %+v %+v", a, l, s)
		}
		s = clone(base)
		s.Store.D.Down = true
		if l := asks(t, &s, in(3, a)); len(l) != 0 || s.Live || s.Seen[0] != 9 || !slices.Equal(s.Desk.Leases, base.Desk.Leases) || !slices.Equal(s.Desk.Line, base.Desk.Line) {
			t.Errorf("%+v, on a disk that is down: %+v %+v", a, l, s)
		}
	}
}

// TestWhatNeedsNoDisk: what is lent, given back without writes or refused does not go by the disk.
func TestWhatNeedsNoDisk(t *testing.T) {
	s := desked(some(), leases(held(1, 1, wrote, 130)), nil)
	s.Store.D.Down = true
	for seq, a := range []api.Ask{lend(2, 0, 2, reads), lend(2, 0, 1, reads), lend(2, 0, 3, reads), flush(2, 0, 1, write(0, "x")), give(2, 0, 2), give(2, 0, 2, write(0, "x")), gone(2, 0, 1)} {
		a.Seq = 1 + seq
		if l := asks(t, &s, in(3, a)); len(l) != 1 || !s.Live {
			t.Errorf("%+v: %+v %+v", a, l, s)
		}
	}
	s.Now = 500
	if l := runs(&s); len(l) != 1 || !s.Live {
		t.Errorf("%+v %+v", l, s)
	}
}
