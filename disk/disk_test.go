package disk_test

import (
	"fmt"
	"math"
	"reflect"
	"slices"
	"strings"
	"sync"
	"testing"

	"tenancy/api"
	"tenancy/disk"
)

// dice is a row of numbers by a rule that mixes them, the same each time (splitmix64).
type dice uint64

func (d *dice) below(n int) int {
	*d += 0x9e3779b97f4a7c15
	x := uint64(*d)
	x = (x ^ x>>30) * 0xbf58476d1ce4e5b9
	x = (x ^ x>>27) * 0x94d049bb133111eb
	return int((x ^ x>>31) % uint64(n))
}

// sector is one of bytes of all kinds.
func (d *dice) sector() string {
	b := make([]byte, api.Sector)
	for i := range b {
		b[i] = byte(d.below(256))
	}
	return string(b)
}

// s is a sector of one letter.
func s(c string) string { return strings.Repeat(c, api.Sector) }

// same says whether a and b are the same disk; of lists, nil is an empty one.
func same(a, b api.Disk) bool {
	return slices.Equal(a.Last, b.Last) && slices.Equal(a.Wait, b.Wait) && a.Arm == b.Arm && a.Down == b.Down
}

// clone is d in memory of its own, by no call of the program.
func clone(d api.Disk) api.Disk {
	d.Last = append([]string{}, d.Last...)
	d.Wait = append([]api.Put{}, d.Wait...)
	return d
}

// noSectors are of no disk of five sectors or fewer.
var noSectors = []int{math.MinInt, math.MinInt + 1, -1 << 32, -64, -5, -2, -1, 5, 6, 31, 32, 63, 64, 65, 1<<32 + 1, 1 << 62, math.MaxInt - 1, math.MaxInt}

// noContents do not fill a sector.
func noContents() []string {
	l := []string{s("a") + s("a"), strings.Repeat("漢", api.Sector), strings.Repeat("x", 1<<16)}
	for n := range 100 {
		if n != api.Sector {
			l = append(l, strings.Repeat("a", n))
		}
	}
	return l
}

// disks are new, of few and of many sectors, written to, flushed, armed, down.
func disks() []api.Disk {
	throw := dice(1)
	l := []api.Disk{{}, disk.New(1), disk.New(5), disk.New(64)}
	for size := 1; size <= 5; size++ {
		for waiting := range 8 {
			d := api.Disk{}
			for range size {
				d.Last = append(d.Last, throw.sector())
			}
			for range waiting {
				d.Wait = append(d.Wait, api.Put{At: throw.below(size), B: throw.sector()})
			}
			l = append(l, d)
		}
	}
	for _, d := range slices.Clone(l) {
		for _, arm := range []int{1, 2, 7, math.MaxInt} {
			armed := clone(d)
			armed.Arm = arm
			l = append(l, armed)
		}
		d = clone(d)
		d.Down = true
		l = append(l, d)
	}
	return l
}

// keeps are lists of how many bytes last: none, too few, too many, of numbers that may be and of such as are taken for others.
func keeps() [][]int {
	throw := dice(2)
	l := [][]int{nil, {}, {0}, {-1}, {1}, {31}, {32}, {33}, {math.MaxInt, math.MinInt, 16, math.MinInt, math.MaxInt, 5, -7, 40, 32}}
	for n := range 12 {
		row := make([]int, n)
		for i := range row {
			row[i] = throw.below(40) - 4
		}
		l = append(l, row, slices.Repeat([]int{32}, n))
	}
	return l
}

func TestNewIsSectorsOfNoughts(t *testing.T) {
	for n := 1; n <= 64; n++ {
		d := disk.New(n)
		if len(d.Last) != n || len(d.Wait) != 0 || d.Arm != 0 || d.Down {
			t.Errorf("New of %d: %v", n, d)
		}
		for i, b := range d.Last {
			if b != string(make([]byte, 32)) {
				t.Errorf("New of %d: sector %d is %q", n, i, b)
			}
			if got, ok := disk.Read(d, i); got != b || !ok {
				t.Errorf("New of %d: sector %d is read as %q %v", n, i, got, ok)
			}
		}
		if _, ok := disk.Read(d, n); ok {
			t.Errorf("New of %d: it has one more", n)
		}
	}
}

func TestNewOfWrongNumbers(t *testing.T) {
	for _, n := range []int{math.MinInt, -1 << 32, -65, -64, -2, -1, 0, 65, 66, 128, 1 << 32, 1<<32 + 1, 1 << 61, math.MaxInt} {
		if d := disk.New(n); !same(d, api.Disk{}) {
			t.Errorf("New of %d: %d sectors", n, len(d.Last))
		}
	}
}

// TestReadIsWhatWasWrittenLast writes to sectors by turns, and holds beside what each is.
func TestReadIsWhatWasWrittenLast(t *testing.T) {
	throw := dice(3)
	for _, size := range []int{1, 2, 5, 64} {
		d, want := disk.New(size), slices.Repeat([]string{s("\x00")}, size)
		for turn := range 60 {
			i, b := throw.below(size), throw.sector()
			after, ok := disk.Write(d, i, b)
			if !ok || !same(after, api.Disk{Last: d.Last, Wait: append(clone(d).Wait, api.Put{At: i, B: b})}) {
				t.Fatalf("Write %d of %d sectors: %v", turn, size, ok)
			}
			d, want[i] = after, b
			for j := range size {
				if got, ok := disk.Read(d, j); got != want[j] || !ok {
					t.Fatalf("write %d of %d sectors: sector %d is %q %v", turn, size, j, got, ok)
				}
			}
			if throw.below(7) == 0 {
				d, ok = disk.Flush(d)
				if !ok || !same(d, api.Disk{Last: want}) {
					t.Fatalf("Flush behind write %d of %d sectors: %v", turn, size, ok)
				}
			}
		}
	}
}

func TestReadNo(t *testing.T) {
	d, _ := disk.Write(disk.New(5), 4, s("a"))
	for _, i := range noSectors {
		// What waits for no sector of the disk makes none of it.
		odd := api.Disk{Last: d.Last, Wait: []api.Put{{At: i, B: s("a")}}}
		for _, x := range []api.Disk{d, odd} {
			if got, ok := disk.Read(x, i); got != "" || ok {
				t.Errorf("Read of %d: %q %v", i, got, ok)
			}
		}
		if got, ok := disk.Read(api.Disk{}, i); got != "" || ok {
			t.Errorf("Read of %d of no sectors: %q %v", i, got, ok)
		}
	}
	d.Down = true
	for i := -1; i <= 5; i++ {
		if got, ok := disk.Read(d, i); got != "" || ok {
			t.Errorf("Read of %d of one that is down: %q %v", i, got, ok)
		}
	}
}

// TestWriteNo: it is as it was; it is not armed by one less, either.
func TestWriteNo(t *testing.T) {
	for _, d := range disks() {
		for _, i := range noSectors {
			if i < 0 || i >= len(d.Last) {
				mustStay(t, d, i, s("a"))
				mustStay(t, d, i, "short")
			}
		}
		mustStay(t, d, len(d.Last), s("a"))
		if d.Down {
			for i := range d.Last {
				mustStay(t, d, i, s("a"))
			}
		}
	}
	for _, b := range noContents() {
		for _, arm := range []int{0, 1, 2} {
			for i := range 3 {
				mustStay(t, api.Disk{Last: disk.New(3).Last, Arm: arm}, i, b)
			}
		}
	}
}

// mustStay says where a write is let, or changes d.
func mustStay(t *testing.T, d api.Disk, i int, b string) {
	t.Helper()
	was := clone(d)
	if got, ok := disk.Write(d, i, b); ok || !same(got, was) {
		t.Errorf("Write of %d bytes to %d of %d sectors: %v %v", len(b), i, len(d.Last), got, ok)
	}
}

// TestArm: of n writes the last waits, too, but its power goes; then all say no until a crash.
func TestArm(t *testing.T) {
	for _, n := range []int{1, 2, 3, 20} {
		d := disk.New(4)
		d.Arm = n
		var wait []api.Put
		for k := 1; k <= n; k++ {
			p := api.Put{At: k % 4, B: s(string(rune('a' + k)))}
			wait = append(wait, p)
			after, ok := disk.Write(d, p.At, p.B)
			if want := (api.Disk{Last: disk.New(4).Last, Wait: wait, Arm: n - k, Down: k == n}); ok != (k < n) || !same(after, want) {
				t.Fatalf("write %d of %d: %v %v", k, n, after, ok)
			}
			d = after
			for i := range 4 {
				if b, ok := disk.Read(d, i); ok != (k < n) || !ok && b != "" {
					t.Errorf("Read behind write %d of %d: %q %v", k, n, b, ok)
				}
			}
		}
		mustStay(t, d, 0, s("z"))
		if after, ok := disk.Flush(d); ok || !same(after, d) {
			t.Errorf("Flush behind %d: %v %v", n, after, ok)
		}
		back := disk.Crash(d, slices.Repeat([]int{32}, n))
		alive := api.Disk{Last: disk.New(4).Last, Wait: wait}
		if flushed, ok := disk.Flush(alive); !ok || !same(back, flushed) {
			t.Errorf("Crash behind %d: %v", n, back)
		}
		if _, ok := disk.Write(back, 0, s("z")); !ok {
			t.Errorf("Crash behind %d: it is not written to", n)
		}
	}
}

// TestArmCountsWritesAlone: neither what is read nor what is flushed brings its power nearer to its end; unarmed it stays so.
func TestArmCountsWritesAlone(t *testing.T) {
	d := disk.New(2)
	d.Arm = 2
	for range 5 {
		disk.Read(d, 0)
		after, ok := disk.Flush(d)
		if !ok || after.Arm != 2 {
			t.Fatalf("Flush: %v %v", after, ok)
		}
		d = after
	}
	for _, arm := range []int{0, -1, math.MinInt} {
		d := api.Disk{Last: disk.New(2).Last, Arm: arm}
		for range 70 {
			after, ok := disk.Write(d, 1, s("a"))
			if !ok || after.Arm != arm || after.Down {
				t.Fatalf("Write, armed by %d: %d %v", arm, after.Arm, ok)
			}
			d = after
		}
	}
}

// TestFlush: each sector is as it was read ahead of it; then nothing waits.
func TestFlush(t *testing.T) {
	for n, d := range disks() {
		got, ok := disk.Flush(d)
		if d.Down {
			if ok || !same(got, d) {
				t.Errorf("Flush of disk %d, which is down: %v %v", n, got, ok)
			}
			continue
		}
		want := api.Disk{Arm: d.Arm}
		for i := range d.Last {
			b, _ := disk.Read(d, i)
			want.Last = append(want.Last, b)
		}
		if !ok || !same(got, want) {
			t.Errorf("Flush of disk %d: %v %v, not %v", n, got, ok, want)
		}
		if again, ok := disk.Flush(got); !ok || !same(again, want) {
			t.Errorf("Flush of disk %d again: %v %v", n, again, ok)
		}
	}
}

func TestCrashExamples(t *testing.T) {
	a, b, c, o := s("a"), s("b"), s("c"), s("\x00")
	d := api.Disk{Last: []string{o, o, o}, Wait: []api.Put{{At: 0, B: a}, {At: 2, B: b}, {At: 0, B: c}}}
	for _, x := range []struct {
		keep []int
		want []string
	}{
		{nil, []string{o, o, o}}, {[]int{}, []string{o, o, o}}, {[]int{0, 0, 0}, []string{o, o, o}}, {[]int{-1, -32, math.MinInt}, []string{o, o, o}},
		{[]int{32}, []string{a, o, o}}, {[]int{32, 32}, []string{a, o, b}}, {[]int{32, 32, 32}, []string{c, o, b}}, {[]int{33, 1 << 40, math.MaxInt}, []string{c, o, b}},
		{[]int{1}, []string{"a" + o[1:], o, o}}, {[]int{0, 31}, []string{o, o, b[:31] + "\x00"}}, {[]int{32, 0, 1}, []string{"c" + a[1:], o, o}}, {[]int{5, 0, 9}, []string{c[:9] + o[9:], o, o}}, {[]int{9, 0, 5}, []string{c[:5] + a[5:9] + o[9:], o, o}},
		{[]int{0, 0, 32, 32, 32, 7}, []string{c, o, o}},
	} {
		if got := disk.Crash(d, x.keep); !same(got, api.Disk{Last: x.want}) {
			t.Errorf("Crash, %v kept: %q", x.keep, got.Last)
		}
	}
}

// byteBehind is what byte j of sector i is behind a crash: of the last that waited for it and of which so much is kept.
func byteBehind(d api.Disk, keep []int, i, j int) byte {
	for k := len(d.Wait) - 1; k >= 0; k-- {
		if d.Wait[k].At == i && k < len(keep) && keep[k] > j {
			return d.Wait[k].B[j]
		}
	}
	return d.Last[i][j]
}

func TestCrashByteByByte(t *testing.T) {
	for n, d := range disks() {
		for _, keep := range keeps() {
			got := disk.Crash(d, keep)
			if len(got.Last) != len(d.Last) || len(got.Wait) != 0 || got.Arm != 0 || got.Down {
				t.Fatalf("Crash of disk %d: %v", n, got)
			}
			for i, b := range got.Last {
				for j := range api.Sector {
					if len(b) != api.Sector || b[j] != byteBehind(d, keep, i, j) {
						t.Fatalf("Crash of disk %d, %v kept: byte %d of sector %d: %q", n, keep, j, i, b)
					}
				}
			}
		}
	}
}

// TestCrashWithoutKeep is the example: as ahead of all that waits.
func TestCrashWithoutKeep(t *testing.T) {
	for n, d := range disks() {
		d, _ = disk.Flush(api.Disk{Last: d.Last, Wait: d.Wait})
		written := d
		for i := range 3 * len(d.Last) {
			written, _ = disk.Write(written, i%len(d.Last), s("w"))
		}
		if got := disk.Crash(written, nil); !same(got, d) {
			t.Errorf("Crash of disk %d: %q", n, got.Last)
		}
	}
}

// TestWhatWasFlushedLasts: whatever is written to other sectors since, whatever of it is kept, at whichever write its power goes.
func TestWhatWasFlushedLasts(t *testing.T) {
	throw := dice(4)
	for _, keep := range keeps() {
		for arm := range 8 {
			d, ok := disk.Write(disk.New(6), 3, s("a"))
			d, flushed := disk.Flush(d)
			if !ok || !flushed {
				t.Fatal("it is not flushed")
			}
			d.Arm = arm
			for range 6 {
				d, _ = disk.Write(d, []int{0, 1, 2, 4, 5}[throw.below(5)], throw.sector())
			}
			d = disk.Crash(d, keep)
			if got, ok := disk.Read(d, 3); got != s("a") || !ok {
				t.Errorf("armed by %d, %v kept: %q %v", arm, keep, got, ok)
			}
		}
	}
}

// calls are all ways to hand a disk in, those that are let and those that are not.
func calls() map[string]func(d api.Disk) (api.Disk, string) {
	write := func(i int, b string) func(d api.Disk) (api.Disk, string) {
		return func(d api.Disk) (api.Disk, string) {
			after, ok := disk.Write(d, i, b)
			return after, fmt.Sprint(ok)
		}
	}
	crash := func(keep []int) func(d api.Disk) (api.Disk, string) {
		return func(d api.Disk) (api.Disk, string) { return disk.Crash(d, keep), "" }
	}
	read := func(i int) func(d api.Disk) (api.Disk, string) {
		return func(d api.Disk) (api.Disk, string) {
			b, ok := disk.Read(d, i)
			return api.Disk{}, fmt.Sprint(b, ok)
		}
	}
	return map[string]func(d api.Disk) (api.Disk, string){
		"Read": read(0), "Read of the last": read(4), "Read of none": read(-1), "Read of one behind": read(64),
		"Write": write(0, s("w")), "Write to none": write(-1, s("w")), "Write to one behind": write(64, s("w")), "Write of little": write(0, "w"), "Write of much": write(0, s("w")+"w"),
		"Crash": crash([]int{5, 9, 32, 0, 40, -1, 7}), "Crash with little kept": crash([]int{32}), "Crash without keep": crash(nil),
		"Flush": func(d api.Disk) (api.Disk, string) {
			after, ok := disk.Flush(d)
			return after, fmt.Sprint(ok)
		},
	}
}

// roomy is d with spare room behind its lists, in which something stands.
func roomy(d api.Disk) api.Disk {
	last := append(slices.Clone(d.Last), "spare", "room")
	wait := append(slices.Clone(d.Wait), api.Put{At: 0, B: s("!")}, api.Put{At: 1, B: "spare"})
	d.Last, d.Wait = last[:len(d.Last)], wait[:len(d.Wait)]
	return d
}

// room is all that d's lists hold, their spare room too.
func room(d api.Disk) api.Disk {
	d.Last, d.Wait = d.Last[:cap(d.Last)], d.Wait[:cap(d.Wait)]
	return d
}

// scratch writes over all that d's lists hold.
func scratch(d api.Disk, x string) {
	d = room(d)
	for i := range d.Last {
		d.Last[i] = x
	}
	for i := range d.Wait {
		d.Wait[i] = api.Put{At: 1, B: x}
	}
}

// TestNothingHandedInIsChanged looks at the spare room, too, which changes no answer.
func TestNothingHandedInIsChanged(t *testing.T) {
	for name, call := range calls() {
		for n, d := range disks() {
			wide := roomy(d)
			was := clone(room(wide))
			got, said := call(wide)
			if !same(room(wide), was) {
				t.Errorf("%s of disk %d changes it", name, n)
			}
			if want, wanted := call(clone(d)); !same(got, want) || said != wanted {
				t.Errorf("%s of disk %d: %v %s with spare room, %v %s without", name, n, got, said, want, wanted)
			}
		}
	}
	keep := []int{1, 2, 3, 50, -1}
	disk.Crash(disks()[20], keep[:3])
	if !slices.Equal(keep, []int{1, 2, 3, 50, -1}) {
		t.Errorf("Crash changes what it is handed: %v", keep)
	}
	d := api.Disk{Last: []string{s("a")}, Wait: []api.Put{{At: 0, B: s("b")}, {At: 0, B: s("c")}}}
	if got := disk.Crash(d, []int{0, 32}[:1]); got.Last[0] != s("a") {
		t.Errorf("Crash looks at spare room: %q", got.Last)
	}
}

// TestAnswersAreNewMemory: what is told and what was handed in may be changed, each without the other; so may what is told twice.
func TestAnswersAreNewMemory(t *testing.T) {
	for name, call := range calls() {
		for n, d := range disks() {
			d = roomy(d)
			was := clone(room(d))
			one, _ := call(d)
			two, _ := call(d)
			want := clone(one)
			scratch(one, "one")
			if !same(room(d), was) || !same(two, want) {
				t.Errorf("%s of disk %d shares what it tells", name, n)
			}
			scratch(d, "in")
			if !same(two, want) {
				t.Errorf("%s of disk %d keeps what it is handed", name, n)
			}
		}
	}
	one, two := disk.New(3), disk.New(3)
	scratch(one, "one")
	if !same(two, api.Disk{Last: []string{s("\x00"), s("\x00"), s("\x00")}}) {
		t.Errorf("New shares what it tells: %q", two.Last)
	}
}

// TestNilIsAnEmptyList: of nothing, the same comes.
func TestNilIsAnEmptyList(t *testing.T) {
	for name, call := range calls() {
		want, wanted := call(api.Disk{})
		if got, said := call(api.Disk{Last: []string{}, Wait: []api.Put{}}); !same(got, want) || said != wanted {
			t.Errorf("%s: %v %s of nil, %v %s of empty lists", name, want, wanted, got, said)
		}
		if len(want.Last) != 0 || len(want.Wait) != 0 {
			t.Errorf("%s of no sectors: %v", name, want)
		}
	}
}

// TestOddDisks: such as no call tells are borne; each call ends, and leaves them as they were.
func TestOddDisks(t *testing.T) {
	odd := []api.Disk{
		{Last: []string{"", "short", s("a") + "long"}, Wait: []api.Put{{At: 0, B: s("b")}, {At: 1, B: ""}, {At: 2, B: "short"}, {At: 0, B: s("c") + "long"}, {At: 2, B: s("d")}, {At: 1, B: s("e")}}},
		{Last: []string{s("a")}, Wait: []api.Put{{At: -1, B: s("b")}, {At: 1, B: s("c")}, {At: math.MaxInt, B: s("d")}, {At: math.MinInt}}},
		{Wait: []api.Put{{At: 0, B: s("b")}, {}}},
		{Last: slices.Repeat([]string{s("a")}, 200), Wait: []api.Put{{At: 199, B: s("b")}}, Arm: -3},
		{Down: true, Arm: 5},
	}
	for name, call := range calls() {
		for n, d := range odd {
			was := clone(d)
			one, said := call(d)
			two, again := call(d)
			if !same(d, was) || !same(one, two) || said != again {
				t.Errorf("%s of odd disk %d: %v %s, then %v %s", name, n, one, said, two, again)
			}
		}
	}
	if got := disk.Crash(odd[1], slices.Repeat([]int{32}, 4)); !same(got, api.Disk{Last: []string{s("a")}}) {
		t.Errorf("what waits for no sector lasts: %v", got)
	}
	d := api.Disk{Last: []string{s("a")}, Wait: []api.Put{{At: 0, B: s("b") + "long"}}}
	if got := disk.Crash(d, []int{35}); !same(got, api.Disk{Last: []string{s("b")}}) {
		t.Errorf("of what is longer than a sector so much lasts: %v", got)
	}
}

// TestSameAgain: nothing is kept from call to call, nor from one that said no; many may ask at once.
func TestSameAgain(t *testing.T) {
	var all sync.WaitGroup
	for name, call := range calls() {
		for n, d := range disks() {
			want, wanted := call(d)
			all.Go(func() {
				for range 3 {
					if got, said := call(d); !reflect.DeepEqual(got, want) || said != wanted {
						t.Errorf("%s of disk %d: %v, then %v", name, n, want, got)
					}
				}
			})
		}
	}
	all.Wait()
}
