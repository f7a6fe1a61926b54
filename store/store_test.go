package store_test

import (
	"fmt"
	"math"
	"slices"
	"strings"
	"testing"

	"tenancy/api"
	"tenancy/disk"
	"tenancy/image"
	"tenancy/state"
	"tenancy/store"
)

func TestLimits(t *testing.T) {
	if files != api.MaxFile || clients != api.MaxCli || most != api.MaxNum || sector != api.Sector || home != len(image.Put(state.New())) || sectors != 2*home+1 {
		t.Fatalf("%d %d %d %d %d", api.MaxFile, api.MaxCli, api.MaxNum, api.Sector, len(image.Put(state.New())))
	}
}

// noughts is a disk of so many sectors of noughts.
func noughts(n int) api.Disk {
	return api.Disk{Last: slices.Repeat([]string{strings.Repeat("\x00", 32)}, n)}
}

func TestMake(t *testing.T) {
	want := api.Store{D: noughts(19), S: api.State{Files: make([]api.File, 6), Marks: make([]api.Mark, 3)}}
	for range 3 {
		if st := store.Make(); !asOne(st, want) {
			t.Errorf("%v", st)
		}
	}
	if l := image.Put(state.New()); !slices.Equal(store.Make().D.Last[:9], l) {
		t.Errorf("there stands not %q", l)
	}
}

func TestMakeThenOpen(t *testing.T) {
	made := store.Make()
	if st, ok := store.Open(made.D); !ok || !asOne(st, made) {
		t.Errorf("%v %v", st, ok)
	}
}

// TestExample writes out all that a commit leaves.
func TestExample(t *testing.T) {
	s := state.New()
	s.Epoch, s.Files[5] = 258, api.File{Name: "~", Ver: 1, Body: "xyz"}
	first := "\x00\x00\x01\x02" + strings.Repeat("\x00", 28)
	// The file's 38 bytes stand from byte 224 on, as the first of the eighth sector: the name's ten, Ver, a body that ends in it.
	name := "\x01~" + strings.Repeat("\x00", 7) + "\x00\x00\x00\x01" + "\x03xyz" + strings.Repeat("\x00", 15)
	want := api.Store{D: noughts(19), S: s}
	for i, b := range map[int]string{0: first, 7: name, 9: "\x01\x02\x00\x07" + strings.Repeat("\x00", 27) + "\x01", 10: first, 11: name} {
		want.D.Last[i] = b
	}
	st, ok := store.Commit(store.Make(), s)
	if !ok || !asOne(st, want) {
		t.Errorf("Commit: %v %q, not %q", ok, st.D.Last, want.D.Last)
	}
	if got, ok := store.Open(st.D); !ok || !asOne(got, want) {
		t.Errorf("Open: %v %v", ok, got)
	}
}

// pairs are two states each, one to be committed behind the other: of one sector that is another one, of some, of all.
func pairs() [][2]api.State {
	l := [][2]api.State{{blank(), full()}, {full(), blank()}, {some(), begun()}, {begun(), some()}, {blank(), some()}, {full(), some()}}
	throw := dice(1)
	for range 60 {
		s := throw.state()
		l = append(l, [2]api.State{s, throw.next(s)}, [2]api.State{s, throw.state()})
	}
	return l
}

// mustCommit holds a commit against its steps, at whichever write the power goes: by then there stands and waits what the journal has, and S is as it was; armed beyond the last write it is done.
func mustCommit(t *testing.T, st api.Store, s api.State) {
	t.Helper()
	l := changes(st.S, s)
	for arm := range 2*len(l) + 5 {
		st.D.Arm = arm
		d, wanted := done(st.D, steps(l))
		want := api.Store{D: d, S: st.S}
		if wanted {
			want.S = s
		}
		if got, ok := store.Commit(st, s); ok != wanted || !asOne(got, want) {
			t.Fatalf("%v to %v, armed by %d: %v %v, not %v", st.S, s, arm, ok, got, want)
		}
		if wanted != (arm == 0 || len(l) == 0 || arm > 2*len(l)+2) {
			t.Fatalf("%v to %v, armed by %d: %v", st.S, s, arm, wanted)
		}
	}
}

func TestCommitStepByStep(t *testing.T) {
	throw, seen := dice(2), map[int]int{}
	for _, p := range pairs() {
		seen[len(changes(p[0], p[1]))]++
		mustCommit(t, api.Store{D: throw.holding(p[0]), S: p[0]}, p[1])
	}
	if seen[1] == 0 || seen[9] == 0 || len(seen) < 7 {
		t.Errorf("so many sectors are others: %v", seen)
	}
}

// TestCommitOnWhatWaits: what waited ahead of a commit lasts by its first Flush.
func TestCommitOnWhatWaits(t *testing.T) {
	throw := dice(3)
	for _, p := range pairs() {
		st := api.Store{D: throw.holding(p[0]), S: p[0]}
		for range 1 + throw.below(4) {
			st.D.Wait = append(st.D.Wait, api.Put{At: throw.below(sectors), B: throw.sector()})
		}
		mustCommit(t, st, p[1])
	}
}

// TestCommitGoesByS: what is unlike st.S is written, whatever stands on the disk.
func TestCommitGoesByS(t *testing.T) {
	throw := dice(4)
	for _, p := range pairs() {
		st := api.Store{D: throw.holding(full()), S: p[0]}
		d, _ := done(st.D, steps(changes(p[0], p[1])))
		if got, ok := store.Commit(st, p[1]); !ok || !asOne(got, api.Store{D: d, S: p[1]}) {
			t.Fatalf("%v to %v: %v %v", p[0], p[1], ok, got)
		}
	}
}

// disks are those of a store that holds s: as it is, with something that waits, armed, down.
func (d *dice) disks(s api.State) map[string]api.Disk {
	wait := d.holding(s)
	wait.Wait = []api.Put{{At: 9, B: headOf(1)}, {At: 18, B: d.sector()}}
	down, both := d.holding(s), clone(wait)
	down.Down, both.Down = true, true
	return map[string]api.Disk{"plain": d.holding(s), "waits": wait, "armed": armed(wait, 1), "armed by much": armed(wait, math.MaxInt), "down": down, "down, waits": both}
}

// TestCommitOfTheSame: of nothing that is another one the journal says yes, whatever disk it is, which stays.
func TestCommitOfTheSame(t *testing.T) {
	throw := dice(5)
	for _, s := range []api.State{blank(), full(), some(), throw.state()} {
		for what, d := range throw.disks(s) {
			st := api.Store{D: d, S: s}
			if got, ok := store.Commit(st, s); !ok || !asOne(got, st) {
				t.Errorf("%s: %v %v", what, ok, got)
			}
		}
	}
}

// mustRefuse says where a commit is done, or changes st.
func mustRefuse(t *testing.T, what string, st api.Store, s api.State) {
	t.Helper()
	was := api.Store{D: clone(st.D), S: st.S}
	if got, ok := store.Commit(st, s); ok || !asOne(got, was) {
		t.Errorf("%s: %v %v", what, ok, got)
	}
}

func TestCommitOfWhatMayNotBe(t *testing.T) {
	throw := dice(6)
	for _, s := range []api.State{blank(), full(), begun()} {
		for what, d := range throw.disks(s) {
			for wrong, x := range wrongStates() {
				mustRefuse(t, what+", "+wrong, api.Store{D: d, S: s}, x)
			}
		}
	}
}

// TestCommitBehindWhatMayNotBe: where S may not be there is nothing to hold s against, and nothing is done.
func TestCommitBehindWhatMayNotBe(t *testing.T) {
	throw := dice(7)
	for wrong, x := range wrongStates() {
		for what, d := range throw.disks(full()) {
			for _, s := range []api.State{full(), blank(), x, {}} {
				mustRefuse(t, what+", "+wrong, api.Store{D: d, S: x}, s)
			}
		}
	}
	mustRefuse(t, "nothing", api.Store{}, blank())
	mustRefuse(t, "nothing", api.Store{}, api.State{})
}

// TestCommitDown: to a disk that is down nothing is committed.
func TestCommitDown(t *testing.T) {
	throw := dice(8)
	for _, what := range []string{"down", "down, waits"} {
		for _, p := range pairs() {
			if !alike(p[0], p[1]) {
				mustRefuse(t, what, api.Store{D: throw.disks(p[0])[what], S: p[0]}, p[1])
			}
		}
	}
	mustRefuse(t, "no disk", api.Store{S: blank()}, full())
}

// TestCommitToOtherSizes: whether a disk has sectors enough is what the journal says.
func TestCommitToOtherSizes(t *testing.T) {
	throw := dice(17)
	for _, p := range [][2]api.State{{some(), begun()}, {blank(), full()}, {full(), some()}} {
		l := changes(p[0], p[1])
		for n := range 64 {
			st := api.Store{D: throw.holding(p[0]), S: p[0]}
			for len(st.D.Last) < n {
				st.D.Last = append(st.D.Last, throw.sector())
			}
			if st.D.Last = st.D.Last[:n]; n < 10+len(l) {
				mustRefuse(t, fmt.Sprint(n, " sectors"), st, p[1])
			} else {
				mustCommit(t, st, p[1])
			}
		}
	}
}

// mustBeNone says where a disk is opened, or anything is told of it.
func mustBeNone(t *testing.T, what string, d api.Disk) {
	t.Helper()
	if st, ok := store.Open(d); ok || !asOne(st, api.Store{}) {
		t.Errorf("%s: %v %v", what, ok, st)
	}
}

// mustOpen holds what Open tells of d against opened; it tells whether it is a yes.
func mustOpen(t *testing.T, d api.Disk) bool {
	t.Helper()
	want, wanted := opened(d)
	st, ok := store.Open(d)
	if ok != wanted || !asOne(st, want) {
		t.Fatalf("Open of %v: %v %v, not %v %v", d, ok, st, wanted, want)
	}
	return ok
}

// TestOpenWithoutAHead: where the head is not right, the state is that of the home sectors, and the disk stays.
func TestOpenWithoutAHead(t *testing.T) {
	throw := dice(9)
	for _, s := range []api.State{blank(), full(), some(), throw.state(), throw.state()} {
		d := throw.holding(s)
		// Were it taken as right, another state would stand there.
		copy(d.Last[10:], image.Put(begun()))
		for _, h := range []string{strings.Repeat("\x00", 32), strings.Repeat("\x01", 32), throw.sector(), headOf(), headOf(9), headOf(0, 0), headOf(1, 0), headOf(0, 1)[:31] + "\x00", "\x00" + headOf(0, 1)[1:], headOf(0, 200)} {
			d.Last[9] = h
			for _, arm := range []int{0, 1, 2, math.MaxInt} {
				d.Arm = arm
				if st, ok := store.Open(d); !ok || !asOne(st, api.Store{D: d, S: s}) {
					t.Errorf("%q, armed by %d: %v %v", h, arm, ok, st)
				}
			}
		}
	}
}

// TestOpenWithAHead: where it is right, each sector that it names is as its copy is.
func TestOpenWithAHead(t *testing.T) {
	throw := dice(10)
	for _, p := range pairs() {
		l := changes(p[0], p[1])
		if len(l) == 0 {
			continue
		}
		d, _ := done(throw.holding(p[0]), steps(l)[:3])
		whole, _ := done(d, [][]api.Put{l})
		for torn := range 20 {
			x := clone(d)
			for _, q := range l[:min(torn, len(l))] {
				n := throw.below(33)
				x.Last[q.At] = q.B[:n] + x.Last[q.At][n:]
			}
			if st, ok := store.Open(x); !ok || !asOne(st, api.Store{D: whole, S: p[1]}) {
				t.Fatalf("%v to %v: %v %v", p[0], p[1], ok, st)
			}
		}
	}
}

// TestOpenArmed: when the power goes in Open, it says no; beyond that, it has counted the writes.
func TestOpenArmed(t *testing.T) {
	throw := dice(11)
	for _, p := range pairs() {
		l := changes(p[0], p[1])
		if len(l) == 0 {
			continue
		}
		d, _ := done(throw.holding(p[0]), steps(l)[:3])
		for arm := range len(l) + 3 {
			if ok := mustOpen(t, armed(d, arm)); ok != (arm == 0 || arm > len(l)) {
				t.Fatalf("%v to %v, armed by %d: %v", p[0], p[1], arm, ok)
			}
		}
	}
}

func TestOpenDown(t *testing.T) {
	throw := dice(12)
	for _, s := range []api.State{blank(), full(), some()} {
		for _, h := range []string{throw.sector(), headOf(0)} {
			d := throw.holding(s)
			d.Last[9], d.Last[10], d.Down = h, d.Last[0], true
			mustBeNone(t, "down", d)
			d.Wait = []api.Put{{At: 3, B: d.Last[3]}}
			mustBeNone(t, "down, waits", d)
		}
	}
	d := store.Make().D
	d.Down = true
	mustBeNone(t, "made, down", d)
}

// TestOpenOfOtherSizes: with each other number of sectors, also where a state stands in the first nine.
func TestOpenOfOtherSizes(t *testing.T) {
	throw := dice(13)
	mustBeNone(t, "nothing", api.Disk{})
	for n := range 300 {
		if n == sectors {
			continue
		}
		for _, s := range []api.State{blank(), full()} {
			d := throw.holding(s)
			for len(d.Last) < n {
				d.Last = append(d.Last, throw.sector())
			}
			d.Last = d.Last[:n]
			mustBeNone(t, fmt.Sprint(n, " sectors"), d)
			if n > 10 {
				d.Last[9], d.Last[10] = headOf(0), d.Last[0]
				mustBeNone(t, fmt.Sprint(n, " sectors, a right head"), d)
			}
		}
		mustBeNone(t, fmt.Sprint(n, " new ones"), disk.New(n))
	}
}

// TestOpenOfTurned: each byte of the home sectors and of the head, to others; some are states, some are none.
func TestOpenOfTurned(t *testing.T) {
	throw, count := dice(14), map[bool]int{}
	for _, s := range []api.State{blank(), full(), some()} {
		d := throw.holding(s)
		d.Last[9] = headOf(0, 1, 2, 3, 4, 5, 6, 7, 8)
		copy(d.Last[10:], image.Put(full()))
		for _, head := range []string{d.Last[9], strings.Repeat("\x00", 32)} {
			d.Last[9] = head
			for i := range sectors {
				was := d.Last[i]
				for at := range sector {
					b := []byte(was)
					for _, by := range []int{0, 1, 2, 8, 9, 24, 25, 255, throw.below(256)} {
						b[at] = byte(by)
						d.Last[i] = string(b)
						count[mustOpen(t, d)]++
					}
				}
				d.Last[i] = was
			}
		}
	}
	if count[true] < 5000 || count[false] < 1000 {
		t.Errorf("%v: too few of one kind", count)
	}
}

// TestOpenOfWhatWaits: sectors are as they were written last, whether they last or wait; what waits goes on to, where the head is not right.
func TestOpenOfWhatWaits(t *testing.T) {
	throw, count := dice(15), map[[2]bool]int{}
	for range 2000 {
		a, b := throw.state(), begun()
		if throw.below(2) > 0 {
			b = throw.next(a)
		}
		d := throw.holding(a)
		l := changes(a, b)
		all := slices.Concat(slices.Concat(steps(l)...), []api.Put{{At: throw.below(sectors), B: throw.sector()}})
		for _, p := range all[:throw.below(len(all)+1)] {
			if d.Wait = append(d.Wait, p); throw.below(9) == 0 {
				d, _ = done(d, [][]api.Put{nil})
			}
		}
		d.Arm = []int{0, 0, 1, 5, 20}[throw.below(5)]
		st, _ := store.Open(d)
		count[[2]bool{mustOpen(t, d), len(st.D.Wait) > 0}]++
	}
	if count[[2]bool{true, true}] < 100 || count[[2]bool{true, false}] < 100 || count[[2]bool{false, false}] < 100 {
		t.Errorf("%v: too few of one kind", count)
	}
}

// TestOpenOfNone: what stands there is no state.
func TestOpenOfNone(t *testing.T) {
	throw := dice(16)
	for range 200 {
		d := throw.holding(full())
		for i := range home {
			d.Last[i] = throw.sector()
		}
		mustBeNone(t, "anything", d)
	}
	twice := full()
	twice.Files[3].Name = twice.Files[1].Name
	d := throw.holding(full())
	at := func(i int) int { return 34 + 38*i }
	all := []byte(strings.Join(d.Last[:9], ""))
	copy(all[at(3):at(3)+9], all[at(1):at(1)+9])
	for i := range home {
		d.Last[i] = string(all[32*i : 32*i+32])
	}
	mustBeNone(t, "a name twice", d)
	// A right head brings what is none.
	d = throw.holding(full())
	d.Last[9], d.Last[10] = headOf(0), strings.Repeat("\xff", 32)
	mustBeNone(t, "an epoch that may not be", d)
	// And it takes it away.
	d.Last[0], d.Last[10] = d.Last[10], d.Last[0]
	if st, ok := store.Open(d); !ok || !alike(st.S, full()) {
		t.Errorf("%v %v", ok, st)
	}
}
