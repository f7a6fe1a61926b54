package store_test

import (
	"fmt"
	"math"
	"slices"
	"strings"
	"sync"
	"testing"

	"tenancy/api"
	"tenancy/image"
	"tenancy/store"
)

// inRoom is l in a list that has spare room, in which something stands.
func inRoom[T any](l []T, behind ...T) []T {
	return slices.Concat(l, behind)[:len(l)]
}

// roomy is st in lists of its own that have spare room.
func roomy(st api.Store) api.Store {
	st.D.Last, st.D.Wait = inRoom(st.D.Last, image.Put(full())...), inRoom(st.D.Wait, api.Put{At: 1, B: "spare"}, api.Put{B: strings.Repeat("!", sector)})
	st.S.Files, st.S.Marks = inRoom(st.S.Files, full().Files...), inRoom(st.S.Marks, full().Marks...)
	return st
}

// whole is st with all that its lists hold, their spare room too.
func whole(st api.Store) api.Store {
	st.D.Last, st.D.Wait = st.D.Last[:cap(st.D.Last)], st.D.Wait[:cap(st.D.Wait)]
	st.S.Files, st.S.Marks = st.S.Files[:cap(st.S.Files)], st.S.Marks[:cap(st.S.Marks)]
	return st
}

// cloned is st in memory of its own, by no call of the program.
func cloned(st api.Store) api.Store {
	st.D = clone(st.D)
	st.S.Files, st.S.Marks = append([]api.File{}, st.S.Files...), append([]api.Mark{}, st.S.Marks...)
	return st
}

// scratch writes over all that st's lists hold.
func scratch(st api.Store, by string) {
	st = whole(st)
	for i := range st.D.Last {
		st.D.Last[i] = by
	}
	for i := range st.D.Wait {
		st.D.Wait[i] = api.Put{At: 1, B: by}
	}
	for i := range st.S.Files {
		st.S.Files[i] = api.File{Name: by, Ver: -9}
	}
	for i := range st.S.Marks {
		st.S.Marks[i] = api.Mark{Seq: -9, Ver: len(by)}
	}
}

// kinds are stores of all kinds: whole ones, with a head that is right, that wait, armed, down, of no state, of other sizes, of nothing.
func kinds() []api.Store {
	throw := dice(30)
	l := []api.Store{{}, store.Make(), {S: full()}, {D: throw.holding(full())}}
	for _, s := range []api.State{blank(), full(), some()} {
		for _, what := range []string{"plain", "waits", "armed", "armed by much", "down", "down, waits"} {
			l = append(l, api.Store{D: throw.disks(s)[what], S: s})
		}
		d, _ := done(throw.holding(s), steps(changes(s, begun()))[:3])
		l = append(l, api.Store{D: d, S: s}, api.Store{D: armed(d, 1), S: s}, api.Store{D: armed(d, 5), S: begun()})
		few, many := throw.holding(s), throw.holding(s)
		few.Last, many.Last = few.Last[:14], append(many.Last, throw.sector())
		l = append(l, api.Store{D: few, S: s}, api.Store{D: many, S: s}, api.Store{D: d, S: wrongStates()["a name twice of 0"]})
	}
	return l
}

// odd are stores on disks such as no call tells.
func odd() []api.Store {
	throw := dice(31)
	var l []api.Store
	add := func(turn func(d *api.Disk)) {
		for _, s := range []api.State{blank(), full(), {}} {
			d := throw.holding(full())
			d.Last[9] = headOf(0, 3, 8)
			turn(&d)
			l = append(l, api.Store{D: d, S: s})
		}
	}
	for i := range sectors {
		for _, b := range []string{"", "short", strings.Repeat("\x01", 31), strings.Repeat("\x01", 33), strings.Repeat("漢", sector)} {
			add(func(d *api.Disk) { d.Last[i] = b })
			add(func(d *api.Disk) { d.Wait = []api.Put{{At: i, B: b}} })
		}
	}
	for _, at := range []int{math.MinInt, -1, 19, 64, 256, math.MaxInt} {
		add(func(d *api.Disk) { d.Wait = []api.Put{{At: at, B: d.Last[9]}, {At: at}} })
		add(func(d *api.Disk) { d.Arm = at })
	}
	add(func(d *api.Disk) { d.Last = slices.Repeat([]string{""}, sectors) })
	add(func(d *api.Disk) { d.Last = slices.Repeat([]string{strings.Repeat("\x01", 1<<20)}, sectors) })
	add(func(d *api.Disk) { d.Last = make([]string, 1<<16) })
	add(func(d *api.Disk) { d.Wait = make([]api.Put, 1<<12) })
	return l
}

// answer is what a call tells.
type answer struct {
	st api.Store
	ok bool
}

// calls are all ways to hand a store in, and a state.
func calls() map[string]func(st api.Store) answer {
	commit := func(s api.State) func(st api.Store) answer {
		return func(st api.Store) answer {
			got, ok := store.Commit(st, s)
			return answer{got, ok}
		}
	}
	wrong := full()
	wrong.Epoch = -1
	return map[string]func(st api.Store) answer{
		"Open": func(st api.Store) answer {
			got, ok := store.Open(st.D)
			return answer{got, ok}
		},
		"Commit of a full one": commit(full()), "Commit of begun": commit(begun()), "Commit of a blank one": commit(blank()), "Commit of a wrong one": commit(wrong), "Commit of nothing": commit(api.State{}),
		"Commit of its own": func(st api.Store) answer { return commit(st.S)(st) },
	}
}

// TestNothingHandedInIsChanged looks at the spare room, too, which changes no answer.
func TestNothingHandedInIsChanged(t *testing.T) {
	for name, call := range calls() {
		for n, st := range kinds() {
			wide := roomy(st)
			was := cloned(whole(wide))
			got := call(wide)
			if !asOne(whole(wide), was) {
				t.Errorf("%s of store %d changes it", name, n)
			}
			if want := call(cloned(st)); got.ok != want.ok || !asOne(got.st, want.st) {
				t.Errorf("%s of store %d: %v with spare room, %v without", name, n, got, want)
			}
		}
	}
	for n, st := range kinds() {
		for _, s := range []api.State{full(), some(), {}} {
			wide := roomy(api.Store{S: s})
			was := cloned(whole(wide))
			got, ok := store.Commit(st, wide.S)
			if want, wanted := store.Commit(st, s); ok != wanted || !asOne(got, want) || !asOne(whole(wide), was) {
				t.Errorf("Commit of %v to store %d: %v %v, not %v %v", s, n, ok, got, wanted, want)
			}
		}
	}
}

// TestNewMemory: what is told and what was handed in may be changed, each without the other; so may what is told twice.
func TestNewMemory(t *testing.T) {
	for name, call := range calls() {
		for n, st := range kinds() {
			st = roomy(st)
			was := cloned(whole(st))
			one, two := call(st), call(st)
			want := cloned(two.st)
			scratch(one.st, "one")
			if !asOne(whole(st), was) || !asOne(two.st, want) {
				t.Errorf("%s of store %d shares what it tells", name, n)
			}
			scratch(st, "in")
			if !asOne(two.st, want) {
				t.Errorf("%s of store %d keeps what it is handed", name, n)
			}
		}
	}
	one, two := store.Make(), store.Make()
	scratch(one, "one")
	if !asOne(two, api.Store{D: noughts(19), S: blank()}) || !asOne(store.Make(), two) {
		t.Error("Make tells the same memory twice")
	}
}

// TestNewMemoryOfTheState: S is not the state that was handed in, but as it.
func TestNewMemoryOfTheState(t *testing.T) {
	for n, st := range kinds() {
		for _, s := range []api.State{full(), some(), blank(), {}} {
			wide := roomy(api.Store{S: s})
			got, _ := store.Commit(st, wide.S)
			want := cloned(got)
			scratch(wide, "in")
			if !asOne(got, want) {
				t.Errorf("Commit to store %d keeps the state that it is handed", n)
			}
			was := cloned(whole(wide))
			scratch(got, "told")
			if !asOne(whole(wide), was) {
				t.Errorf("Commit to store %d shares what it tells", n)
			}
		}
	}
}

// TestNilIsAnEmptyList: the one is taken as the other, and told as it.
func TestNilIsAnEmptyList(t *testing.T) {
	empty := api.Store{D: api.Disk{Last: []string{}, Wait: []api.Put{}}, S: api.State{Files: []api.File{}, Marks: []api.Mark{}}}
	for name, call := range calls() {
		if a, b := call(api.Store{}), call(empty); a.ok || b.ok || !asOne(a.st, api.Store{}) || !asOne(b.st, api.Store{}) {
			t.Errorf("%s: %v %v", name, a, b)
		}
		for n, st := range kinds() {
			if len(st.D.Wait) > 0 {
				continue
			}
			with, without := st, st
			with.D.Wait, without.D.Wait = []api.Put{}, nil
			if a, b := call(with), call(without); a.ok != b.ok || !asOne(a.st, b.st) {
				t.Errorf("%s of store %d: %v %v", name, n, a, b)
			}
		}
	}
}

// TestOdd: they are borne; each call ends, leaves them as they were, answers the same again, and tells nothing beside a no of Open.
func TestOdd(t *testing.T) {
	for name, call := range calls() {
		for n, st := range slices.Concat(odd(), kinds()) {
			was := cloned(st)
			one, two := call(st), call(st)
			if !asOne(st, was) || one.ok != two.ok || !asOne(one.st, two.st) {
				t.Errorf("%s of odd store %d: %v, then %v", name, n, one, two)
			}
			if !one.ok && name == "Open" && !asOne(one.st, api.Store{}) || !one.ok && name != "Open" && !alike(one.st.S, st.S) {
				t.Errorf("%s of odd store %d: no, and %v", name, n, one.st)
			}
		}
	}
}

// TestSameAgain: nothing is kept from call to call; many may call with the same store at one time.
func TestSameAgain(t *testing.T) {
	l := kinds()
	told := make([]string, 8)
	var all sync.WaitGroup
	for k := range told {
		all.Go(func() {
			ways := calls()
			for _, st := range l {
				for _, name := range []string{"Open", "Commit of begun", "Commit of nothing", "Commit of its own", "Commit of a wrong one", "Commit of a full one"} {
					told[k] += fmt.Sprint(ways[name](st), store.Make())
				}
			}
		})
	}
	all.Wait()
	for k, x := range told {
		if x != told[0] {
			t.Errorf("caller %d is told otherwise", k)
		}
	}
}
