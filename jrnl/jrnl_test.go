package jrnl_test

import (
	"fmt"
	"math"
	"slices"
	"strings"
	"sync"
	"testing"

	"tenancy/api"
	"tenancy/disk"
	"tenancy/jrnl"
)

// dice is a row of numbers by a rule that mixes them, the same each time (splitmix64).
type dice uint64

func (d *dice) below(n int) int {
	*d += 0x9e3779b97f4a7c15
	x := uint64(*d)
	x = (x ^ x>>30) * 0xbf58476d1ce4e5b9
	x = (x ^ x>>27) * 0x94d049bb133111eb
	return int((x ^ x>>31) % uint64(n))
}

// sector is one of bytes of all kinds.
func (d *dice) sector() string {
	b := make([]byte, api.Sector)
	for i := range b {
		b[i] = byte(d.below(256))
	}
	return string(b)
}

// disk is one of n sectors of bytes of all kinds, of which nothing waits.
func (d *dice) disk(n int) api.Disk {
	x := api.Disk{}
	for range n {
		x.Last = append(x.Last, d.sector())
	}
	return x
}

// puts are n sectors below home, rising, unlike.
func (d *dice) puts(home, n int) []api.Put {
	ats := make([]int, home)
	for i := range ats {
		ats[i] = i
	}
	for len(ats) > n {
		i := d.below(len(ats))
		ats = slices.Delete(ats, i, i+1)
	}
	var l []api.Put
	for _, at := range ats {
		l = append(l, api.Put{At: at, B: d.sector()})
	}
	return l
}

// s is a sector of one letter.
func s(c string) string { return strings.Repeat(c, api.Sector) }

func put(at int, c string) api.Put { return api.Put{At: at, B: s(c)} }

// same says whether a and b are the same disk; of lists, nil is an empty one.
func same(a, b api.Disk) bool {
	return slices.Equal(a.Last, b.Last) && slices.Equal(a.Wait, b.Wait) && a.Arm == b.Arm && a.Down == b.Down
}

// clone is d in memory of its own, by no call of the program.
func clone(d api.Disk) api.Disk {
	d.Last = append([]string{}, d.Last...)
	d.Wait = append([]api.Put{}, d.Wait...)
	return d
}

// armed is d, whose power goes at the n-th write from now.
func armed(d api.Disk, n int) api.Disk {
	d = clone(d)
	d.Arm = n
	return d
}

// headOf is the head of some sectors, written out: 1, how many, each, noughts, 1.
func headOf(ats ...int) string {
	h := "\x01" + string([]byte{byte(len(ats))})
	for _, at := range ats {
		h += string([]byte{byte(at)})
	}
	return h + strings.Repeat("\x00", api.Sector-1-len(h)) + "\x01"
}

// rights are the sectors that a head names; no where it is not right: by the chapter's words, one behind the other.
func rights(h string, home, size int) ([]int, bool) {
	if len(h) != 32 || h[0] != 1 || h[31] != 1 || h[1] < 1 || h[1] > 16 || home+int(h[1]) > size-1 {
		return nil, false
	}
	var ats []int
	for j := 2; j < 31; j++ {
		switch at := int(h[j]); {
		case j >= 2+int(h[1]):
			if at != 0 {
				return nil, false
			}
		case at >= home || len(ats) > 0 && at <= ats[len(ats)-1]:
			return nil, false
		default:
			ats = append(ats, at)
		}
	}
	return ats, true
}

// steps are the writes of a commit, in its four parts, each of which is flushed.
func steps(home int, l []api.Put) [][]api.Put {
	var copies []api.Put
	var ats []int
	for k, p := range l {
		copies = append(copies, api.Put{At: home + k + 1, B: p.B})
		ats = append(ats, p.At)
	}
	return [][]api.Put{{{At: home, B: s("\x00")}}, copies, {{At: home, B: headOf(ats...)}}, l}
}

// done is d behind these parts, and whether it said yes to all: what a disk does, written out.
func done(d api.Disk, parts [][]api.Put) (api.Disk, bool) {
	d = clone(d)
	for _, part := range parts {
		for _, p := range part {
			if d.Down {
				return d, false
			}
			d.Wait = append(d.Wait, p)
			if d.Arm > 0 {
				d.Arm--
				if d.Arm == 0 {
					d.Down = true
					return d, false
				}
			}
		}
		for _, p := range d.Wait {
			d.Last[p.At] = p.B
		}
		d.Wait = nil
	}
	return d, true
}

// at are sizes of disks, homes of heads in them, and of how many sectors a commit may be: the edges, and some between.
type at struct{ size, home, n int }

func places() []at {
	l := []at{{3, 1, 1}, {4, 1, 1}, {19, 9, 1}, {19, 9, 9}, {19, 9, 5}, {33, 16, 16}, {34, 17, 16}, {37, 20, 16}, {60, 20, 16}, {64, 62, 1}, {64, 47, 16}, {64, 40, 16}, {64, 63 - 15, 15}, {40, 38, 1}}
	throw := dice(1)
	for range 40 {
		size := 3 + throw.below(62)
		home := 1 + throw.below(size-2)
		l = append(l, at{size, home, 1 + throw.below(min(16, home, size-1-home))})
	}
	return l
}

func TestExample(t *testing.T) {
	d := disk.New(19)
	l := []api.Put{put(0, "a"), put(4, "b"), put(8, "c")}
	x, ok := jrnl.Commit(d, 9, l)
	want := disk.New(19)
	for i, b := range map[int]string{0: s("a"), 4: s("b"), 8: s("c"), 9: headOf(0, 4, 8), 10: s("a"), 11: s("b"), 12: s("c")} {
		want.Last[i] = b
	}
	if !ok || !same(x, want) {
		t.Errorf("Commit: %v %q", ok, x.Last)
	}
	if y, ok := jrnl.Mend(x, 9); !ok || !same(y, want) {
		t.Errorf("Mend: %v %q", ok, y.Last)
	}
}

// TestCommitStepByStep: at whichever write the power goes, there stands and waits what the chapter has by then; armed beyond the last write it is done.
func TestCommitStepByStep(t *testing.T) {
	throw := dice(2)
	for _, p := range places() {
		d, l := throw.disk(p.size), throw.puts(p.home, p.n)
		for arm := range 2*p.n + 5 {
			want, wanted := done(armed(d, arm), steps(p.home, l))
			got, ok := jrnl.Commit(armed(d, arm), p.home, l)
			if ok != wanted || !same(got, want) {
				t.Fatalf("%v, armed by %d: %v %v, not %v", p, arm, ok, got, want)
			}
			if wanted != (arm == 0 || arm > 2*p.n+2) {
				t.Fatalf("%v, armed by %d: %v", p, arm, wanted)
			}
		}
	}
}

// TestCommitOnWhatWaits: what waited ahead of a commit lasts by its first Flush.
func TestCommitOnWhatWaits(t *testing.T) {
	throw := dice(3)
	for _, p := range places() {
		d, l := throw.disk(p.size), throw.puts(p.home, p.n)
		for range 5 {
			d.Wait = append(d.Wait, api.Put{At: throw.below(p.size), B: throw.sector()})
		}
		for arm := range 2*p.n + 4 {
			want, wanted := done(armed(d, arm), steps(p.home, l))
			if got, ok := jrnl.Commit(armed(d, arm), p.home, l); ok != wanted || !same(got, want) {
				t.Fatalf("%v, armed by %d: %v %v, not %v", p, arm, ok, got, want)
			}
		}
	}
}

// mustStay says where a commit is let, or changes d.
func mustStay(t *testing.T, d api.Disk, home int, l []api.Put) {
	t.Helper()
	was := clone(d)
	if got, ok := jrnl.Commit(d, home, l); ok || !same(got, was) {
		t.Errorf("Commit of %d to a disk of %d with its head at %d: %v %v", len(l), len(d.Last), home, ok, got)
	}
}

func TestCommitOfWrongSectors(t *testing.T) {
	throw := dice(4)
	d := armed(throw.disk(40), 9)
	d.Wait = []api.Put{put(3, "w")}
	l := throw.puts(18, 6)
	if _, ok := jrnl.Commit(armed(d, 0), 18, l); !ok {
		t.Fatal("it may be")
	}
	for k := range l {
		wrong := []int{math.MinInt, math.MinInt + 1, -1 << 32, -256, -18, -2, -1, 18, 19, 24, 25, 39, 40, 63, 64, 255, 256, 256 + l[k].At, 1<<32 + l[k].At, 1 << 62, math.MaxInt}
		if k > 0 {
			wrong = append(wrong, l[k-1].At, l[k-1].At-1, l[0].At, 0)
		}
		for _, at := range wrong {
			bad := slices.Clone(l)
			bad[k].At = at
			mustStay(t, d, 18, bad)
		}
		for n := range 100 {
			bad := slices.Clone(l)
			if bad[k].B = strings.Repeat("b", n); n != api.Sector {
				mustStay(t, d, 18, bad)
			}
		}
		bad := slices.Clone(l)
		bad[k].B = strings.Repeat("漢", api.Sector)
		mustStay(t, d, 18, bad)
	}
	mustStay(t, d, 18, []api.Put{l[0], l[2], l[1]})
	mustStay(t, d, 18, []api.Put{l[0], l[0]})
	mustStay(t, d, 18, slices.Concat(l, l))
	mustStay(t, d, 18, []api.Put{{}})
}

// TestCommitOfManyAndWithoutRoom: at most sixteen, and of each a copy has its place.
func TestCommitOfManyAndWithoutRoom(t *testing.T) {
	throw := dice(5)
	for size := 1; size <= 64; size++ {
		d := throw.disk(size)
		for _, home := range []int{0, 1, 2, 9, 15, 16, 17, 20, 30, 31, 32, 47, 62, 63, size - 18, size - 17, size - 16, size - 2, size - 1, size, size + 1} {
			for _, n := range []int{1, 2, 3, 9, 15, 16, 17, 18, 30, 63} {
				if n > home {
					continue
				}
				l := throw.puts(home, n)
				if n > 16 || home+n >= size {
					mustStay(t, d, home, l)
				} else if _, ok := jrnl.Commit(d, home, l); !ok {
					t.Errorf("Commit of %d to a disk of %d with its head at %d: no", n, size, home)
				}
			}
		}
	}
	mustStay(t, throw.disk(64), 20, throw.puts(60, 60))
	mustStay(t, throw.disk(64), 20, slices.Repeat([]api.Put{put(1, "a")}, 300))
}

func TestCommitToWrongHomes(t *testing.T) {
	for _, home := range wrongHomes(20) {
		for _, at := range []int{0, 1, -1, math.MinInt, home - 1, home, home + 1} {
			mustStay(t, disk.New(20), home, []api.Put{put(at, "a")})
			mustStay(t, api.Disk{}, home, []api.Put{put(at, "a")})
		}
	}
	mustStay(t, disk.New(20), 0, []api.Put{put(0, "a")})
	mustStay(t, disk.New(20), 19, []api.Put{put(0, "a")})
}

// wrongHomes are no sectors of a disk of n sectors.
func wrongHomes(n int) []int {
	return []int{math.MinInt, math.MinInt + 1, math.MinInt + n, -1 << 32, -n, -2, -1, n, n + 1, 2 * n, 64, 65, 1<<32 + 1, 1 << 62, math.MaxInt - 1, math.MaxInt}
}

// TestCommitOfNone: yes, whatever disk it is, and whatever home; it stays as it is.
func TestCommitOfNone(t *testing.T) {
	for n, d := range disks() {
		for _, home := range append(wrongHomes(20), 0, 1, 9, 19) {
			for _, l := range [][]api.Put{nil, {}} {
				if got, ok := jrnl.Commit(d, home, l); !ok || !same(got, d) {
					t.Errorf("Commit of none to disk %d with its head at %d: %v %v", n, home, ok, got)
				}
			}
		}
	}
}

// disks are of twenty sectors: with a right head at 9 and without, some of it waiting, armed, down; and one of none.
func disks() []api.Disk {
	throw := dice(6)
	d := throw.disk(20)
	head := clone(d)
	head.Last[9] = headOf(0, 3, 8)
	wait := clone(d)
	wait.Wait = []api.Put{put(3, "w"), {At: 9, B: headOf(1, 2)}, put(11, "x")}
	over := clone(head)
	over.Wait = []api.Put{put(9, "\x01"), put(2, "y")}
	l := []api.Disk{{}, d, head, wait, over}
	for _, d := range slices.Clone(l) {
		for _, arm := range []int{1, 2, 3, 4, 8, math.MaxInt} {
			l = append(l, armed(d, arm))
		}
		d = clone(d)
		d.Down = true
		l = append(l, d)
	}
	return l
}

// TestDown: a disk that is down says no to all but a commit of none.
func TestDown(t *testing.T) {
	for _, d := range disks() {
		d.Down = true
		mustStay(t, d, 9, []api.Put{put(1, "a"), put(2, "b")})
		mustStay(t, d, 9, []api.Put{put(1, "a"), put(9, "b")})
		if got, ok := jrnl.Mend(d, 9); ok || !same(got, d) {
			t.Errorf("Mend: %v %v", ok, got)
		}
	}
}

// mends is what Mend should answer, by rights and done.
func mends(d api.Disk, home int) (api.Disk, bool) {
	if d.Down || home < 0 || home >= len(d.Last) {
		return clone(d), false
	}
	now := clone(d)
	for _, p := range d.Wait {
		now.Last[p.At] = p.B
	}
	ats, ok := rights(now.Last[home], home, len(now.Last))
	if !ok {
		return clone(d), false
	}
	var l []api.Put
	for k, at := range ats {
		l = append(l, api.Put{At: at, B: now.Last[home+1+k]})
	}
	return done(d, [][]api.Put{l})
}

// mustMend says where Mend answers otherwise than mends; it tells whether the head is right.
func mustMend(t *testing.T, d api.Disk, home int) bool {
	t.Helper()
	want, wanted := mends(d, home)
	got, ok := jrnl.Mend(d, home)
	if ok != wanted || !same(got, want) {
		t.Errorf("Mend of a disk of %d with its head at %d: %v %v, not %v %v", len(d.Last), home, ok, got, wanted, want)
	}
	return ok
}

// TestMendOfRightHeads: each sector is as its copy is, all else as it was; at whichever write the power goes.
func TestMendOfRightHeads(t *testing.T) {
	throw := dice(7)
	for _, p := range places() {
		d, l := throw.disk(p.size), throw.puts(p.home, p.n)
		d.Last[p.home] = steps(p.home, l)[2][0].B
		for arm := range p.n + 3 {
			if ok := mustMend(t, armed(d, arm), p.home); ok != (arm == 0 || arm > p.n) {
				t.Errorf("%v, armed by %d: %v", p, arm, ok)
			}
		}
	}
}

// TestMendOfTurnedHeads turns each byte of heads in each way.
func TestMendOfTurnedHeads(t *testing.T) {
	throw := dice(8)
	count := map[bool]int{}
	for _, p := range []at{{33, 16, 16}, {33, 16, 1}, {19, 9, 4}, {37, 20, 15}, {3, 1, 1}, {64, 40, 10}, {12, 9, 2}} {
		d := throw.disk(p.size)
		h := []byte(steps(p.home, throw.puts(p.home, p.n))[2][0].B)
		for j := range h {
			was := h[j]
			for c := range 256 {
				h[j] = byte(c)
				d.Last[p.home] = string(h)
				count[mustMend(t, d, p.home)]++
			}
			h[j] = was
		}
	}
	if count[true] < 300 || count[false] < 10000 {
		t.Errorf("%v: too few of one kind", count)
	}
}

func TestMendOfWrongHeads(t *testing.T) {
	throw := dice(9)
	// Of no sector is nought a right one: what is between the last that is named and the last byte, is noughts too.
	for _, h := range []string{s("\x00"), s("\x01"), s("\xff"), headOf(), headOf(9), headOf(8, 9), headOf(1, 1), headOf(2, 1), headOf(0, 0), headOf(0, 1, 2, 3, 2), headOf(1, 200), headOf(200, 1), throw.sector()} {
		for _, arm := range []int{0, 1} {
			d := armed(throw.disk(20), arm)
			d.Last[9] = h
			d.Wait = []api.Put{put(1, "w")}
			if got, ok := jrnl.Mend(d, 9); ok || !same(got, d) {
				t.Errorf("Mend of %q: %v %v", h, ok, got)
			}
		}
	}
	for n := range 17 {
		ats := []int{0, 1, 2, 3, 4, 5, 6, 7, 8, 9, 10, 11, 12, 13, 14, 15}[:n]
		for size := 17; size <= 40; size++ {
			d := throw.disk(size)
			d.Last[16] = headOf(ats...)
			if ok := mustMend(t, d, 16); ok != (n > 0 && size >= 17+n) {
				t.Errorf("Mend of %d in a disk of %d: %v", n, size, ok)
			}
		}
	}
	for n := 17; n <= 29; n++ {
		d := throw.disk(64)
		var ats []int
		for i := range n {
			ats = append(ats, i)
		}
		d.Last[30] = headOf(ats...)
		if mustMend(t, d, 30) {
			t.Errorf("Mend of %d: yes", n)
		}
	}
	// A head at the first sector has none below it.
	d := throw.disk(20)
	d.Last[0] = headOf(0)
	if mustMend(t, d, 0) {
		t.Error("Mend of a head at 0: yes")
	}
}

func TestMendOfWrongHomes(t *testing.T) {
	for n, d := range disks() {
		for _, home := range wrongHomes(20) {
			if got, ok := jrnl.Mend(d, home); ok || !same(got, d) {
				t.Errorf("Mend of disk %d with its head at %d: %v %v", n, home, ok, got)
			}
		}
	}
}

// TestMendOfWhatWaits: head and copies are as they were written last, whether they last or wait.
func TestMendOfWhatWaits(t *testing.T) {
	throw := dice(10)
	count := map[bool]int{}
	for range 400 {
		d := throw.disk(8)
		for i := 4; i < 6 && throw.below(2) > 0; i++ {
			d.Last[4] = headOf(i-4, 3)
		}
		for range throw.below(6) {
			b := throw.sector()
			if throw.below(2) > 0 {
				b = headOf(throw.below(3), 2+throw.below(3))
			}
			d.Wait = append(d.Wait, api.Put{At: throw.below(8), B: b})
		}
		for arm := range 4 {
			count[mustMend(t, armed(d, arm), 4)]++
		}
	}
	if count[true] < 100 || count[false] < 100 {
		t.Errorf("%v: too few of one kind", count)
	}
}

// kept are lists of how much of n writes lasts: of each alone each number of bytes, with none or all of the others; and mixed.
func kept(throw *dice, n int) [][]int {
	l := [][]int{nil, slices.Repeat([]int{api.Sector}, n), slices.Repeat([]int{-1}, n)}
	for k := range n {
		for b := range api.Sector + 1 {
			for _, rest := range []int{0, api.Sector} {
				row := slices.Repeat([]int{rest}, n)
				row[k] = b
				l = append(l, row)
			}
		}
	}
	for range 40 {
		row := make([]int, n)
		for k := range row {
			row[k] = throw.below(api.Sector+9) - 4
		}
		l = append(l, row)
	}
	return l
}

// TestAllOrNothing: at whichever write the power goes, whatever of each write lasts, behind Mend there is all of the commit, or nothing of it; all, if the head was flushed by then.
func TestAllOrNothing(t *testing.T) {
	throw := dice(11)
	for _, p := range []at{{4, 1, 1}, {19, 9, 3}, {19, 9, 9}, {37, 20, 16}} {
		for _, first := range []bool{false, true} {
			d := throw.disk(p.size)
			if first {
				d, _ = jrnl.Commit(d, p.home, throw.puts(p.home, p.n))
			}
			l := throw.puts(p.home, p.n)
			all, _ := done(d, [][]api.Put{l})
			for arm := 1; arm <= 2*p.n+2; arm++ {
				x, _ := jrnl.Commit(armed(d, arm), p.home, l)
				for _, keep := range kept(&throw, len(x.Wait)) {
					y, right := jrnl.Mend(disk.Crash(x, keep), p.home)
					is, was := slices.Equal(y.Last[:p.home], all.Last[:p.home]), slices.Equal(y.Last[:p.home], d.Last[:p.home])
					flushed := arm > p.n+2
					if !is && !was || flushed && !(is && right) || arm < p.n+2 && !was || len(y.Wait) > 0 || y.Down {
						t.Fatalf("%v, at write %d, %v kept: all %v, nothing %v", p, arm, keep, is, was)
					}
					if arm == p.n+2 && (is != right || is != (len(keep) > 0 && keep[0] >= api.Sector)) {
						t.Fatalf("%v, at the head, %v kept: all %v", p, keep, is)
					}
				}
			}
		}
	}
}

// TestMendThatIsCutOff: when the power goes in Mend too, once and again, the next Mend comes to the same.
func TestMendThatIsCutOff(t *testing.T) {
	throw := dice(12)
	for _, p := range []at{{4, 1, 1}, {19, 9, 3}, {19, 9, 9}} {
		d, l := throw.disk(p.size), throw.puts(p.home, p.n)
		whole, _ := jrnl.Commit(d, p.home, l)
		for arm := p.n + 3; arm <= 2*p.n+2; arm++ {
			x, _ := jrnl.Commit(armed(d, arm), p.home, l)
			for range 60 {
				keep := kept(&throw, p.n)
				x = disk.Crash(x, keep[throw.below(len(keep))])
				x, _ = jrnl.Mend(armed(x, 1+throw.below(p.n)), p.home)
				if !x.Down {
					t.Fatalf("%v, at write %d: its power is there", p, arm)
				}
			}
			x = disk.Crash(x, nil)
			for range 2 {
				var ok bool
				if x, ok = jrnl.Mend(x, p.home); !ok || !same(x, whole) {
					t.Fatalf("%v, at write %d: %v %v", p, arm, ok, x)
				}
			}
		}
	}
}

// TestLongRuns commits again and again, with the power going now and then, also in Mend: what there is, is what was committed last, or the one that was under way.
func TestLongRuns(t *testing.T) {
	throw := dice(13)
	for _, p := range []at{{19, 9, 9}, {40, 20, 16}, {6, 3, 2}} {
		d := disk.New(p.size)
		is := slices.Clone(d.Last[:p.home])
		for turn := range 400 {
			l := throw.puts(p.home, 1+throw.below(p.n))
			next, _ := done(api.Disk{Last: is}, [][]api.Put{l})
			x, ok := jrnl.Commit(armed(d, throw.below(2*len(l)+6)), p.home, l)
			x.Arm = 0
			if ok && !slices.Equal(x.Last[:p.home], next.Last) {
				t.Fatalf("%v, turn %d: it is not there", p, turn)
			}
			for again := true; again; again = x.Down {
				keep := kept(&throw, len(x.Wait))
				x = armed(disk.Crash(x, keep[throw.below(len(keep))]), throw.below(12))
				x, _ = jrnl.Mend(x, p.home)
			}
			d = armed(x, 0)
			if slices.Equal(d.Last[:p.home], next.Last) {
				is = next.Last
			} else if ok || !slices.Equal(d.Last[:p.home], is) {
				t.Fatalf("%v, turn %d: neither all nor nothing", p, turn)
			}
		}
	}
}

// calls are ways to hand a disk in, those that are let and those that are not.
func calls() map[string]func(d api.Disk) (api.Disk, bool) {
	commit := func(home int, l ...api.Put) func(d api.Disk) (api.Disk, bool) {
		return func(d api.Disk) (api.Disk, bool) { return jrnl.Commit(d, home, l) }
	}
	mend := func(home int) func(d api.Disk) (api.Disk, bool) {
		return func(d api.Disk) (api.Disk, bool) { return jrnl.Mend(d, home) }
	}
	return map[string]func(d api.Disk) (api.Disk, bool){
		"Commit": commit(9, put(1, "a"), put(7, "b"), put(8, "c")), "Commit of none": commit(9), "Commit of one that falls": commit(9, put(2, "a"), put(1, "b")),
		"Commit of little": commit(9, put(1, "a"), api.Put{At: 2, B: "b"}), "Commit with no head": commit(-1, put(1, "a")), "Commit without room": commit(19, put(1, "a")),
		"Mend": mend(9), "Mend of none": mend(-1), "Mend of one behind": mend(64), "Mend of the last": mend(19),
	}
}

// roomy is d with spare room behind its lists, in which something stands.
func roomy(d api.Disk) api.Disk {
	last := append(slices.Clone(d.Last), "spare", "room")
	wait := append(slices.Clone(d.Wait), put(0, "!"), api.Put{At: 1, B: "spare"})
	d.Last, d.Wait = last[:len(d.Last)], wait[:len(d.Wait)]
	return d
}

// room is all that d's lists hold, their spare room too.
func room(d api.Disk) api.Disk {
	d.Last, d.Wait = d.Last[:cap(d.Last)], d.Wait[:cap(d.Wait)]
	return d
}

// scratch writes over all that d's lists hold.
func scratch(d api.Disk, x string) {
	d = room(d)
	for i := range d.Last {
		d.Last[i] = x
	}
	for i := range d.Wait {
		d.Wait[i] = api.Put{At: 1, B: x}
	}
}

// TestNothingHandedInIsChanged looks at the spare room, too, which changes no answer.
func TestNothingHandedInIsChanged(t *testing.T) {
	for name, call := range calls() {
		for n, d := range disks() {
			wide := roomy(d)
			was := clone(room(wide))
			got, said := call(wide)
			if !same(room(wide), was) {
				t.Errorf("%s of disk %d changes it", name, n)
			}
			if want, wanted := call(clone(d)); !same(got, want) || said != wanted {
				t.Errorf("%s of disk %d: %v %v with spare room, %v %v without", name, n, got, said, want, wanted)
			}
		}
	}
	l := []api.Put{put(1, "a"), put(2, "b"), put(3, "c"), put(0, "d")}
	was := slices.Clone(l)
	for n := range len(l) + 1 {
		got, ok := jrnl.Commit(disk.New(19), 9, l[:n])
		want, wanted := jrnl.Commit(disk.New(19), 9, slices.Clip(slices.Clone(l[:n])))
		if !slices.Equal(l, was) || ok != wanted || !same(got, want) {
			t.Errorf("Commit of %d with spare room: %v %v", n, l, got)
		}
	}
}

// TestAnswersAreNewMemory: what is told and what was handed in may be changed, each without the other; so may what is told twice.
func TestAnswersAreNewMemory(t *testing.T) {
	for name, call := range calls() {
		for n, d := range disks() {
			d = roomy(d)
			was := clone(room(d))
			one, _ := call(d)
			two, _ := call(d)
			want := clone(one)
			scratch(one, "one")
			if !same(room(d), was) || !same(two, want) {
				t.Errorf("%s of disk %d shares what it tells", name, n)
			}
			scratch(d, "in")
			if !same(two, want) {
				t.Errorf("%s of disk %d keeps what it is handed", name, n)
			}
		}
	}
	l := []api.Put{put(1, "a"), put(2, "b")}
	for arm := range 7 {
		d, _ := jrnl.Commit(armed(disk.New(19), arm), 9, l)
		want := clone(d)
		l[0], l[1] = api.Put{At: 7, B: "over"}, api.Put{}
		if !same(d, want) {
			t.Errorf("Commit, armed by %d, keeps what it is handed", arm)
		}
		l[0], l[1] = put(1, "a"), put(2, "b")
		scratch(d, "one")
		if !slices.Equal(l, []api.Put{put(1, "a"), put(2, "b")}) {
			t.Errorf("Commit, armed by %d, shares what it tells", arm)
		}
	}
}

// TestNilIsAnEmptyList: of nothing, the same comes.
func TestNilIsAnEmptyList(t *testing.T) {
	for name, call := range calls() {
		want, wanted := call(api.Disk{})
		got, said := call(api.Disk{Last: []string{}, Wait: []api.Put{}})
		if !same(got, api.Disk{}) || !same(want, api.Disk{}) || said != wanted || said != (name == "Commit of none") {
			t.Errorf("%s: %v %v of nil, %v %v of empty lists", name, want, wanted, got, said)
		}
	}
}

// oddDisks are such as no call tells.
func oddDisks() []api.Disk {
	throw := dice(14)
	short := throw.disk(20)
	short.Last[9], short.Last[11] = headOf(0, 3, 8), "short"
	long := throw.disk(20)
	long.Last[9] = headOf(0, 3, 8) + "long"
	few := throw.disk(20)
	few.Wait = []api.Put{put(-1, "a"), put(20, "b"), {At: math.MaxInt}, {At: 9, B: headOf(1)}, {At: 10, B: ""}, {At: math.MinInt, B: "short"}}
	arm := armed(throw.disk(20), math.MinInt)
	arm.Last[9] = headOf(0, 8)
	l := []api.Disk{short, long, few, arm, {Last: slices.Repeat([]string{""}, 20)}, {Last: make([]string, 300)}}
	for n := range 40 {
		d := throw.disk(20)
		d.Last[9] = "\x01\x03\x00\x01\x02" + strings.Repeat("\x01", n)
		d.Last[9] = d.Last[9][:max(0, n-5)]
		l = append(l, d)
	}
	return append(l, throw.disk(600), api.Disk{Wait: []api.Put{put(0, "b"), {}}}, api.Disk{Down: true, Arm: 5})
}

// TestOddDisks: they are borne; each call ends, leaves them as they were, and answers the same again.
func TestOddDisks(t *testing.T) {
	for name, call := range calls() {
		for n, d := range oddDisks() {
			was := clone(d)
			one, said := call(d)
			two, again := call(d)
			if !same(d, was) || !same(one, two) || said != again {
				t.Errorf("%s of odd disk %d: %v %v, then %v %v", name, n, one, said, two, again)
			}
		}
	}
	for n, d := range oddDisks() {
		for _, home := range append(wrongHomes(20), 0, 1, 10, 256, 257, 299, 590) {
			for _, l := range [][]api.Put{nil, {put(0, "a")}, {put(0, "a"), put(home-1, "b")}} {
				if _, ok := jrnl.Commit(d, home, l); len(l) == 0 && !ok {
					t.Errorf("Commit of none to odd disk %d: no", n)
				}
			}
			jrnl.Mend(d, home)
		}
	}
}

// TestMendOfAShortCopy: the disk says no to it, behind those ahead of it, which wait.
func TestMendOfAShortCopy(t *testing.T) {
	d := oddDisks()[0]
	want := clone(d)
	want.Wait = []api.Put{{At: 0, B: d.Last[10]}}
	if got, ok := jrnl.Mend(d, 9); ok || !same(got, want) {
		t.Errorf("%v %v", ok, got)
	}
}

// TestWhatNoByteNames: of a disk greater than may be, what a head can't name is not committed.
func TestWhatNoByteNames(t *testing.T) {
	d := api.Disk{Last: slices.Repeat([]string{s("\x00")}, 300)}
	for at := range 280 {
		l := []api.Put{put(at, "a")}
		if at > 255 {
			mustStay(t, d, 280, l)
		} else if x, ok := jrnl.Commit(d, 280, l); !ok || x.Last[at] != s("a") || !mustMend(t, x, 280) {
			t.Errorf("%d: %v", at, ok)
		}
	}
}

// TestAtOnce: many may call with the same disk at one time.
func TestAtOnce(t *testing.T) {
	l := disks()
	told := make([]string, 8)
	var all sync.WaitGroup
	for k := range told {
		all.Go(func() {
			for _, d := range l {
				for _, name := range []string{"Commit", "Mend", "Commit of none", "Commit of little"} {
					after, ok := calls()[name](d)
					told[k] += fmt.Sprint(after, ok)
				}
			}
		})
	}
	all.Wait()
	for k, x := range told {
		if x != told[0] {
			t.Errorf("caller %d is told otherwise", k)
		}
	}
}
