package tests

import (
	"math"
	"slices"
	"strings"
	"testing"

	"loop.example/g00389/impl"
)

// What chapter 16 must answer is worked out here from a line in which the units stand as they were used, the one used longest ago in front:
// what is found goes to its end, what is new comes there, and where it is full the one in front leaves.

type waitingLine struct {
	room, clock int
	line        []impl.Cached
}

func cloneStore(s impl.Store) impl.Store {
	s.Units = slices.Clone(s.Units)
	for i, c := range s.Units {
		s.Units[i].Unit = cloneUnit(c.Unit)
	}
	return s
}

func sameStores(a impl.Store, b impl.Store) bool {
	return a.Room == b.Room && a.Clock == b.Clock && slices.EqualFunc(a.Units, b.Units, func(x, y impl.Cached) bool { return x.Used == y.Used && sameUnits(x.Unit, y.Unit) })
}

func isNoStore(s impl.Store) bool { return sameStores(s, impl.Store{}) }

func lineOf(s impl.Store) *waitingLine {
	line := cloneStore(s).Units
	slices.SortFunc(line, func(x, y impl.Cached) int { return x.Used - y.Used })
	return &waitingLine{s.Room, s.Clock, line}
}

func (w *waitingLine) store() impl.Store {
	units := slices.Clone(w.line)
	slices.SortFunc(units, func(x, y impl.Cached) int { return x.Unit.From - y.Unit.From })
	return cloneStore(impl.Store{Room: w.room, Clock: w.clock, Units: units})
}

func (w *waitingLine) leave(from int) (impl.Unit, bool) {
	for i, c := range w.line {
		if c.Unit.From == from {
			w.line = slices.Delete(w.line, i, i+1)
			return c.Unit, true
		}
	}
	return impl.Unit{}, false
}

func (w *waitingLine) join(u impl.Unit) {
	w.clock++
	w.line = append(w.line, impl.Cached{Unit: u, Used: w.clock})
}

func wantedFound(s impl.Store, pc int) (impl.Store, impl.Unit, bool) {
	w := lineOf(s)
	u, there := w.leave(pc)
	if !there || s.Clock == 1000000 {
		return impl.Store{}, impl.Unit{}, false
	}
	w.join(u)
	return w.store(), u, true
}

func wantedStored(s impl.Store, u impl.Unit) (impl.Store, bool) {
	if s.Clock == 1000000 {
		return impl.Store{}, false
	}
	w := lineOf(s)
	if _, there := w.leave(u.From); !there && len(w.line) == w.room {
		w.line = w.line[1:]
	}
	w.join(u)
	return w.store(), true
}

func wantedKept(s impl.Store, stays func(impl.Unit) bool) (impl.Store, int) {
	left := impl.Store{Room: s.Room, Clock: s.Clock}
	for _, c := range s.Units {
		if stays(c.Unit) {
			left.Units = append(left.Units, c)
		}
	}
	return cloneStore(left), len(s.Units) - len(left.Units)
}

// isThere: its very bytes are, and none of them in a hole.
func isThere(b impl.Bus, u impl.Unit) bool {
	return !isInHole(u) && hexText(b.Bytes[u.From:u.To]) == hexText(bytesOfUnit(u))
}

func isTouched(u impl.Unit, addr int, size int) bool {
	for i := range size {
		if addr+i >= u.From && addr+i < u.To {
			return true
		}
	}
	return false
}

// isGoodStore: good, and told by what the document says of it, one thing after the other.
func isGoodStore(t *testing.T, s impl.Store) {
	t.Helper()
	if !impl.GoodStore(s) || len(s.Units) > s.Room || s.Room > 8 || s.Clock < 0 || s.Clock > 1000000 {
		t.Fatal("it is not good", s)
	}
	for i, c := range s.Units {
		isGood(t, c.Unit)
		if c.Used < 0 || c.Used > s.Clock || i > 0 && c.Unit.From <= s.Units[i-1].Unit.From {
			t.Fatal("it is not good", s)
		}
		for _, d := range s.Units[:i] {
			if d.Used == c.Used {
				t.Fatal("two are used at once", s)
			}
		}
	}
}

func checkFind(t *testing.T, s impl.Store, pc int) impl.Store {
	t.Helper()
	want, wantUnit, wantOk := wantedFound(s, pc)
	got, u, ok := impl.FindUnit(s, pc)
	if ok != wantOk || !sameStores(got, want) || !sameUnits(u, wantUnit) {
		t.Fatalf("FindUnit(%v, %d) = %v, %v, %v; want %v, %v, %v", s, pc, got, u, ok, want, wantUnit, wantOk)
	}
	if ok {
		isGoodStore(t, got)
	}
	return got
}

func checkPut(t *testing.T, s impl.Store, u impl.Unit) impl.Store {
	t.Helper()
	want, wantOk := wantedStored(s, u)
	got, ok := impl.PutUnit(s, u)
	if ok != wantOk || !sameStores(got, want) {
		t.Fatalf("PutUnit(%v, %v) = %v, %v; want %v, %v", s, u, got, ok, want, wantOk)
	}
	if ok {
		isGoodStore(t, got)
	}
	return got
}

func checkDropAt(t *testing.T, s impl.Store, addr int, size int) (impl.Store, int) {
	t.Helper()
	want, wantGone := wantedKept(s, func(u impl.Unit) bool { return !isTouched(u, addr, size) })
	got, gone, ok := impl.DropAt(s, addr, size)
	if !ok || gone != wantGone || !sameStores(got, want) {
		t.Fatalf("DropAt(%v, %d, %d) = %v, %d, %v; want %v, %d", s, addr, size, got, gone, ok, want, wantGone)
	}
	isGoodStore(t, got)
	return got, gone
}

// checkStale: AllFresh, DropStale, and that behind it all is fresh.
func checkStale(t *testing.T, b impl.Bus, s impl.Store) (impl.Store, int) {
	t.Helper()
	want, wantGone := wantedKept(s, func(u impl.Unit) bool { return isThere(b, u) })
	if fresh, ok := impl.AllFresh(b, s); fresh != (wantGone == 0) || !ok {
		t.Fatalf("AllFresh of %v = %v, %v; want %d that are stale", s, fresh, ok, wantGone)
	}
	got, gone, ok := impl.DropStale(b, s)
	if !ok || gone != wantGone || !sameStores(got, want) {
		t.Fatalf("DropStale of %v = %v, %d, %v; want %v, %d", s, got, gone, ok, want, wantGone)
	}
	isGoodStore(t, got)
	if fresh, ok := impl.AllFresh(b, got); !fresh || !ok {
		t.Fatal("behind what drops the stale not all is fresh", got)
	}
	if again, gone, ok := impl.DropStale(b, got); gone != 0 || !ok || !sameStores(again, got) {
		t.Fatal("there are stale ones again", again, gone)
	}
	for _, c := range got.Units {
		checkFresh(t, b, c.Unit, true)
	}
	return got, gone
}

func isUnitPlace(pc int) bool { return pc >= 0 && pc <= 512 && pc%2 == 0 }

// wantedUnitFor: and how it ended, by name: found, translated, or not.
func wantedUnitFor(s impl.Store, b impl.Bus, pc int) (impl.Store, impl.Unit, string) {
	if want, u, finds := wantedFound(s, pc); finds {
		return want, u, "found"
	}
	if isUnitPlace(pc) && len(wantedRowAt(b, pc)) > 0 {
		u := wantedUnit(pc, wantedRowAt(b, pc)...)
		if want, ok := wantedStored(s, u); ok {
			return want, u, "translated"
		}
	}
	return impl.Store{}, impl.Unit{}, "not"
}

// checkUnitFor: how it ended, by name.
func checkUnitFor(t *testing.T, s impl.Store, b impl.Bus, pc int) (impl.Store, string) {
	t.Helper()
	want, wantUnit, ended := wantedUnitFor(s, b, pc)
	got, u, finds, ok := impl.UnitFor(s, b, pc)
	if ok != (ended != "not") || finds != (ended == "found") || !sameUnits(u, wantUnit) || !sameStores(got, want) {
		t.Fatalf("UnitFor(%v, %d) = %v, %v, %v, %v; want %v, %v, %v", s, pc, got, u, finds, ok, want, wantUnit, ended)
	}
	if !ok {
		return s, ended
	}
	isGoodStore(t, got)
	if finds && len(got.Units) != len(s.Units) {
		t.Fatal("what is found changes how many there are", s, got)
	}
	return got, ended
}

func cached(used int, from int, l ...impl.Ins) impl.Cached {
	return impl.Cached{Unit: wantedUnit(from, l...), Used: used}
}

// storeOf: units at 100, 140, .. and so on, one for each of these uses.
func storeOf(room int, clock int, uses ...int) impl.Store {
	s := impl.Store{Room: room, Clock: clock}
	for i, used := range uses {
		s.Units = append(s.Units, cached(used, 40*i+100, mixedBlock(8-i%8)...))
	}
	return s
}

// busWith: with the words of these units, whatever else is there.
func busWith(units ...impl.Cached) impl.Bus {
	b := fullBus(2)
	for _, c := range units {
		copy(b.Bytes[c.Unit.From:], bytesOfUnit(c.Unit))
	}
	return b
}

func countUp(n int) []int {
	var l []int
	for i := range n {
		l = append(l, i+1)
	}
	return l
}

// stores: of none, in part full and full, used in many orders, of every room.
func stores() []impl.Store {
	var l []impl.Store
	for room := 1; room <= 8; room++ {
		for length := range room + 1 {
			uses := countUp(length)
			for range max(length, 1) {
				l = append(l, storeOf(room, length, uses...), storeOf(room, 999990, uses...))
				if length > 0 {
					uses = append(uses[1:], uses[0])
				}
			}
			slices.Reverse(uses)
			l = append(l, storeOf(room, length+100, uses...))
		}
	}
	return l
}

func TestConstantOfTheCache(t *testing.T) {
	if impl.MaxUnits != 8 {
		t.Error(impl.MaxUnits)
	}
}

func TestNewStore(t *testing.T) {
	for room := -20; room <= 20; room++ {
		s, ok := impl.NewStore(room)
		if room < 1 || room > 8 {
			if !isNoStore(s) || ok {
				t.Error(room, s, ok)
			}
			continue
		}
		if !sameStores(s, impl.Store{Room: room}) || !ok {
			t.Error(room, s, ok)
		}
		isGoodStore(t, s)
	}
	for _, room := range []int{100, 256, 257, 65536, 1 << 32, 1<<32 + 1, math.MaxInt, math.MinInt, math.MinInt + 1} {
		if s, ok := impl.NewStore(room); !isNoStore(s) || ok {
			t.Error(room, s, ok)
		}
	}
}

func TestGoodStores(t *testing.T) {
	for _, s := range stores() {
		isGoodStore(t, s)
	}
	for _, s := range []impl.Store{
		{Room: 1}, {Room: 8}, {Room: 1, Units: []impl.Cached{}}, {Room: 8, Clock: 1000000}, {Room: 3, Clock: 999999},
		// used at the first and at the last moment of all
		storeOf(1, 0, 0), storeOf(1, 1000000, 1000000), storeOf(1, 1000000, 0), storeOf(2, 1, 0, 1), storeOf(2, 1000000, 1000000, 999999), storeOf(8, 7, 0, 1, 2, 3, 4, 5, 6, 7), storeOf(8, 7, 7, 6, 5, 4, 3, 2, 1, 0),
		// one over the other, one behind the other, and at both ends of the memory
		{Room: 3, Clock: 5, Units: []impl.Cached{cached(1, 0, longBlock(8)...), cached(2, 4, longBlock(7)...), cached(3, 510, flowOf(0))}},
		{Room: 3, Clock: 5, Units: []impl.Cached{cached(3, 100, flowOf(2)), cached(1, 102, flowOf(2)), cached(2, 104, longIns())}},
		{Room: 2, Clock: 5, Units: []impl.Cached{cached(1, 440, longBlock(8)...), cached(4, 456, flowOf(2))}},
	} {
		isGoodStore(t, s)
	}
}

// changed: a store of three, with one thing of it another.
func changed(change func(*impl.Store)) impl.Store {
	s := storeOf(4, 9, 5, 9, 2)
	change(&s)
	return s
}

func ofUse(place int, used int) impl.Store {
	return changed(func(s *impl.Store) { s.Units[place].Used = used })
}

func ofClock(clock int) impl.Store { return changed(func(s *impl.Store) { s.Clock = clock }) }

func ofRoom(room int) impl.Store { return changed(func(s *impl.Store) { s.Room = room }) }

func wrongUnitStores() []impl.Store {
	var l []impl.Store
	for place := range 3 {
		for _, change := range []func(*impl.Unit){
			func(u *impl.Unit) { u.From += 2 }, func(u *impl.Unit) { u.From-- }, func(u *impl.Unit) { u.To += 2 }, func(u *impl.Unit) { u.To-- }, func(u *impl.Unit) { u.List = nil },
			func(u *impl.Unit) { u.List = u.List[1:] }, func(u *impl.Unit) { u.List = append(u.List, u.List...) }, func(u *impl.Unit) { u.List[1].Skip = !u.List[1].Skip },
			func(u *impl.Unit) { u.List[2].At += 2 }, func(u *impl.Unit) { u.List[0].X.Op = 77 }, func(u *impl.Unit) { u.List[0].X = flowOf(0) },
			func(u *impl.Unit) { *u = wantedUnit(u.From, longBlock(9)...) }, func(u *impl.Unit) { *u = wantedUnit(u.From+1, flowOf(2)) },
		} {
			l = append(l, changed(func(s *impl.Store) { change(&s.Units[place].Unit) }))
		}
	}
	for _, u := range []impl.Unit{{}, wantedUnit(-2, flowOf(2)), wantedUnit(512, flowOf(2)), wantedUnit(510, longIns()), {From: 100, To: 100}} {
		l = append(l, impl.Store{Room: 1, Clock: 1, Units: []impl.Cached{{Unit: u, Used: 1}}})
	}
	return l
}

func wrongOrderStores() []impl.Store {
	var l []impl.Store
	for place := range 2 {
		l = append(l,
			changed(func(s *impl.Store) { s.Units[place], s.Units[place+1] = s.Units[place+1], s.Units[place] }),
			changed(func(s *impl.Store) {
				s.Units[place], s.Units[place+1] = s.Units[place+1], s.Units[place]
				s.Units[place].Used, s.Units[place+1].Used = s.Units[place+1].Used, s.Units[place].Used
			}),
			// two of one From: the same one, and another one
			changed(func(s *impl.Store) { s.Units[place+1].Unit = cloneUnit(s.Units[place].Unit) }),
			changed(func(s *impl.Store) { s.Units[place+1].Unit = wantedUnit(s.Units[place].Unit.From, flowOf(2)) }))
	}
	return append(l, changed(func(s *impl.Store) { s.Units[2].Unit = cloneUnit(s.Units[0].Unit) }), changed(func(s *impl.Store) { slices.Reverse(s.Units) }))
}

func wrongStores() []impl.Store {
	l := slices.Concat(wrongUnitStores(), wrongOrderStores())
	for place := range 3 {
		for _, used := range []int{-1, -2, 10, 11, 1000000, 1000001, math.MinInt, math.MaxInt} {
			l = append(l, ofUse(place, used))
		}
		l = append(l, ofUse(place, []int{9, 2, 5}[place]), ofUse(place, []int{2, 5, 9}[place]))
	}
	for _, clock := range []int{8, 0, -1, -1000000, 1000001, 1000002, 2000000, math.MinInt, math.MaxInt} {
		l = append(l, ofClock(clock))
	}
	for _, room := range []int{2, 1, 0, -1, 9, 10, -4, 1<<32 + 4, math.MinInt, math.MaxInt} {
		l = append(l, ofRoom(room))
	}
	for _, s := range []impl.Store{
		{}, {Clock: 5}, {Room: -1}, {Room: 9}, {Room: 8, Clock: -1}, {Room: 8, Clock: 1000001}, {Room: 1, Clock: math.MinInt}, {Room: 1, Clock: math.MaxInt}, {Room: 1, Units: make([]impl.Cached, 1)},
		storeOf(1, 9, 1, 2), storeOf(7, 9, 1, 2, 3, 4, 5, 6, 7, 8), storeOf(8, 9, 1, 2, 3, 4, 5, 6, 7, 8, 9), storeOf(9, 9, 1, 2, 3, 4, 5, 6, 7, 8, 9), {Room: 8, Clock: 9, Units: make([]impl.Cached, 300)},
		storeOf(2, 0, 0, 0), storeOf(2, 1000000, 1000000, 1000000), storeOf(1, 1000001, 5), storeOf(1, -1, -1), storeOf(1, -1, 0),
	} {
		l = append(l, s)
	}
	return l
}

// refusesStore: no function takes it, though all else is as it should be.
func refusesStore(t *testing.T, s impl.Store) {
	t.Helper()
	if impl.GoodStore(s) {
		t.Fatal("GoodStore", s)
	}
	b := busWith(storeOf(8, 0, 0, 0, 0, 0, 0, 0, 0).Units...)
	for _, pc := range []int{0, 100, 140, 180} {
		refusesFind(t, s, pc)
		refusesUnitFor(t, s, b, pc)
	}
	refusesStored(t, s, wantedUnit(140, flowOf(2)))
	refusesStored(t, s, wantedUnit(300, flowOf(2)))
	refusesDropAt(t, s, 100, 1)
	refusesDropAt(t, s, 400, 2)
	refusesBus(t, b, s)
}

func refusesFind(t *testing.T, s impl.Store, pc int) {
	t.Helper()
	if got, u, ok := impl.FindUnit(s, pc); !isNoStore(got) || !isNoUnit(u) || ok {
		t.Fatal("FindUnit", s, pc, got, u, ok)
	}
}

func refusesStored(t *testing.T, s impl.Store, u impl.Unit) {
	t.Helper()
	if got, ok := impl.PutUnit(s, u); !isNoStore(got) || ok {
		t.Fatal("PutUnit", s, u, got, ok)
	}
}

func refusesDropAt(t *testing.T, s impl.Store, addr int, size int) {
	t.Helper()
	if got, gone, ok := impl.DropAt(s, addr, size); !isNoStore(got) || gone != 0 || ok {
		t.Fatal("DropAt", s, addr, size, got, gone, ok)
	}
}

func refusesUnitFor(t *testing.T, s impl.Store, b impl.Bus, pc int) {
	t.Helper()
	if got, u, found, ok := impl.UnitFor(s, b, pc); !isNoStore(got) || !isNoUnit(u) || found || ok {
		t.Fatal("UnitFor", s, pc, got, u, found, ok)
	}
}

// refusesBus: what drops the stale, and what asks for it, takes not both.
func refusesBus(t *testing.T, b impl.Bus, s impl.Store) {
	t.Helper()
	if fresh, ok := impl.AllFresh(b, s); fresh || ok {
		t.Fatal("AllFresh", s, fresh, ok)
	}
	if got, gone, ok := impl.DropStale(b, s); !isNoStore(got) || gone != 0 || ok {
		t.Fatal("DropStale", s, got, gone, ok)
	}
}

func TestEveryFunctionRefusesWrongStores(t *testing.T) {
	for _, s := range wrongStores() {
		refusesStore(t, s)
	}
}

func TestFindUnitInEveryStore(t *testing.T) {
	for _, s := range stores() {
		for i, c := range s.Units {
			got := checkFind(t, s, c.Unit.From)
			if got.Clock != s.Clock+1 || got.Units[i].Used != s.Clock+1 {
				t.Fatal(got)
			}
			// where it begins alone counts
			for _, pc := range []int{c.Unit.From - 2, c.Unit.From - 1, c.Unit.From + 1, c.Unit.From + 2, c.Unit.To} {
				refusesFind(t, s, pc)
			}
		}
		for _, pc := range []int{0, 1, 98, 510, 512, 65535, 65536, 65636, -1, -100, 1<<32 + 100, math.MinInt, math.MaxInt} {
			refusesFind(t, s, pc)
		}
	}
}

func TestFindUnitAtBothEndsOfTheMemory(t *testing.T) {
	s := impl.Store{Room: 8, Clock: 3, Units: []impl.Cached{cached(3, 0, longIns()), cached(0, 510, flowOf(0))}}
	checkFind(t, checkFind(t, checkFind(t, s, 510), 0), 510)
}

func TestTheClockEnds(t *testing.T) {
	for _, k := range []struct {
		clock int
		ok    bool
	}{{0, true}, {1, true}, {999998, true}, {999999, true}, {1000000, false}} {
		s := impl.Store{Room: 2, Clock: k.clock, Units: []impl.Cached{cached(0, 100, flowOf(2))}}
		b := busWith(append(s.Units, cached(0, 200, flowOf(2)))...)
		told := []impl.Store{checkFind(t, s, 100), checkPut(t, s, wantedUnit(100, longIns())), checkPut(t, s, wantedUnit(300, longIns()))}
		for _, got := range told {
			if k.ok != (got.Clock == k.clock+1) || !k.ok && !isNoStore(got) {
				t.Error(k, got)
			}
		}
		for pc, want := range map[int]string{100: "found", 200: "translated"} {
			if !k.ok {
				want = "not"
				refusesUnitFor(t, s, b, pc)
			}
			if _, ended := checkUnitFor(t, s, b, pc); ended != want {
				t.Error(k, pc, ended)
			}
		}
		// what has no use of the clock goes on
		if left, gone := checkDropAt(t, s, 100, 1); gone != 1 || left.Clock != k.clock {
			t.Error(k, left, gone)
		}
		if left, gone := checkStale(t, layAt(100, longIns()), s); gone != 1 || left.Clock != k.clock {
			t.Error(k, left, gone)
		}
	}
}

// newcomers: that come first, between any two, last, and in the place of each.
func newcomers(s impl.Store) []impl.Unit {
	l := []impl.Unit{wantedUnit(0, flowOf(0)), wantedUnit(98, longBlock(8)...), wantedUnit(510, flowOf(2)), wantedUnit(456, mixedBlock(3)...)}
	for _, c := range s.Units {
		l = append(l, c.Unit, wantedUnit(c.Unit.From, longBlock(4)...), wantedUnit(c.Unit.From+2, flowOf(2)), wantedUnit(c.Unit.To, mixedBlock(5)...))
	}
	return l
}

func TestPutUnitIntoEveryStore(t *testing.T) {
	for _, s := range stores() {
		for _, u := range newcomers(s) {
			got := checkPut(t, s, u)
			if again := checkFind(t, got, u.From); !slices.ContainsFunc(again.Units, func(c impl.Cached) bool { return sameUnits(c.Unit, u) && c.Used == s.Clock+2 }) {
				t.Fatal(u, again)
			}
		}
	}
}

func fromsOf(s impl.Store) []int {
	var l []int
	for _, c := range s.Units {
		l = append(l, c.Unit.From)
	}
	return l
}

// Where it is full the one used least goes, wherever it stands; the Clock counts for nothing.
func TestTheLeastUsedGoes(t *testing.T) {
	for room := 1; room <= 8; room++ {
		for least := range room {
			uses := make([]int, room)
			for i := range uses {
				uses[i] = 10 + (i*5+3)%17*1000
			}
			uses[least] = 9
			s := storeOf(room, 17000, uses...)
			for _, u := range []impl.Unit{wantedUnit(0, flowOf(2)), wantedUnit(150, flowOf(2)), wantedUnit(500, flowOf(2))} {
				want := slices.Sorted(slices.Values(append(slices.Delete(fromsOf(s), least, least+1), u.From)))
				if got := checkPut(t, s, u); !slices.Equal(fromsOf(got), want) || got.Clock != 17001 {
					t.Error(room, least, fromsOf(got), "want", want)
				}
			}
		}
	}
}

func TestPutUnitNamedOneByOne(t *testing.T) {
	full := storeOf(3, 30, 20, 10, 30)
	for _, k := range []struct {
		s      impl.Store
		from   int
		froms  []int
		isUsed []int
	}{
		{storeOf(3, 30), 50, []int{50}, []int{31}}, {storeOf(3, 30, 7), 50, []int{50, 100}, []int{31, 7}}, {storeOf(3, 30, 7), 120, []int{100, 120}, []int{7, 31}},
		{storeOf(3, 30, 7, 5), 120, []int{100, 120, 140}, []int{7, 31, 5}}, {storeOf(3, 30, 7, 5), 140, []int{100, 140}, []int{7, 31}},
		{full, 50, []int{50, 100, 180}, []int{31, 20, 30}}, {full, 120, []int{100, 120, 180}, []int{20, 31, 30}}, {full, 300, []int{100, 180, 300}, []int{20, 30, 31}},
		// one that begins there goes alone, though another one is used less
		{full, 100, []int{100, 140, 180}, []int{31, 10, 30}}, {full, 140, []int{100, 140, 180}, []int{20, 31, 30}}, {full, 180, []int{100, 140, 180}, []int{20, 10, 31}},
		{storeOf(1, 0, 0), 100, []int{100}, []int{1}}, {storeOf(1, 0, 0), 50, []int{50}, []int{1}}, {storeOf(1, 0, 0), 300, []int{300}, []int{1}}, {storeOf(1, 0), 300, []int{300}, []int{1}},
	} {
		u := wantedUnit(k.from, flowOf(2), flowOf(2))
		got := checkPut(t, k.s, u)
		var uses []int
		for _, c := range got.Units {
			uses = append(uses, c.Used)
		}
		if !slices.Equal(fromsOf(got), k.froms) || !slices.Equal(uses, k.isUsed) || !sameUnits(got.Units[slices.Index(k.froms, k.from)].Unit, u) {
			t.Error(k, got)
		}
	}
}

func TestPutUnitRefusesWrongUnits(t *testing.T) {
	for _, wrong := range wrongUnitStores() {
		for _, c := range wrong.Units {
			if impl.GoodUnit(c.Unit) {
				continue
			}
			for _, s := range []impl.Store{storeOf(1, 0), storeOf(4, 9, 5, 9, 2), storeOf(3, 9, 5, 9, 2)} {
				refusesStored(t, s, c.Unit)
			}
		}
	}
}

func TestDropAtNamedAccesses(t *testing.T) {
	// from 100 to 108, one over the other from 104 to 108, from 108 to 110, and from 200 to 204
	s := impl.Store{Room: 5, Clock: 40, Units: []impl.Cached{cached(4, 100, longBlock(2)...), cached(30, 104, longIns()), cached(20, 108, flowOf(2)), cached(10, 200, longIns())}}
	for _, k := range []struct {
		addr, size int
		want       []int
	}{
		{0, 1, []int{100, 104, 108, 200}}, {98, 2, []int{100, 104, 108, 200}}, {99, 1, []int{100, 104, 108, 200}}, {99, 2, []int{104, 108, 200}}, {100, 1, []int{104, 108, 200}}, {103, 1, []int{104, 108, 200}},
		{103, 2, []int{108, 200}}, {104, 1, []int{108, 200}}, {104, 2, []int{108, 200}}, {107, 1, []int{108, 200}}, {107, 2, []int{200}}, {108, 1, []int{100, 104, 200}}, {109, 2, []int{100, 104, 200}},
		{110, 2, []int{100, 104, 108, 200}}, {198, 2, []int{100, 104, 108, 200}}, {199, 2, []int{100, 104, 108}}, {203, 1, []int{100, 104, 108}}, {203, 2, []int{100, 104, 108}}, {204, 1, []int{100, 104, 108, 200}},
		{65535, 1, []int{100, 104, 108, 200}}, {65535, 2, []int{100, 104, 108, 200}}, {450, 1, []int{100, 104, 108, 200}},
	} {
		if left, gone := checkDropAt(t, s, k.addr, k.size); !slices.Equal(fromsOf(left), k.want) || gone != 4-len(k.want) || left.Clock != 40 {
			t.Error(k, fromsOf(left), gone)
		}
	}
	// all of them
	s.Units = s.Units[:3]
	if left, gone := checkDropAt(t, checkPut(t, s, wantedUnit(106, flowOf(2))), 107, 2); gone != 4 || len(left.Units) != 0 || left.Clock != 41 || left.Room != 5 {
		t.Error(left, gone)
	}
}

func TestDropAtEveryAddress(t *testing.T) {
	edges := impl.Store{Room: 8, Clock: 9, Units: []impl.Cached{cached(1, 0, flowOf(2)), cached(9, 2, longBlock(8)...), cached(8, 20, longBlock(8)...), cached(0, 440, longBlock(8)...), cached(2, 446, flowOf(2)), cached(3, 508, longIns()), cached(4, 510, flowOf(0))}}
	dropped := map[int]int{}
	check := func(s impl.Store, addr int) {
		for _, size := range sizes {
			_, gone := checkDropAt(t, s, addr, size)
			dropped[gone]++
		}
	}
	for _, s := range []impl.Store{edges, storeOf(8, 9, 7, 2, 9, 1, 4, 0, 6, 3), storeOf(1, 1, 1), storeOf(8, 0)} {
		for addr := range 65536 {
			if addr < 600 || addr > 65500 || addr%997 == 0 {
				check(s, addr)
			}
		}
	}
	for i, s := range stores() {
		for addr := 99 + i%40; addr < 512; addr += 40 {
			check(s, addr)
		}
	}
	if dropped[0] < 100 || dropped[1] < 100 || dropped[2] < 10 {
		t.Error(dropped)
	}
}

func TestDropAtRefusesWhatIsNoAccess(t *testing.T) {
	for _, s := range []impl.Store{storeOf(1, 0), storeOf(3, 3, 1, 2, 3)} {
		for _, addr := range wrongAddresses {
			for _, size := range sizes {
				refusesDropAt(t, s, addr, size)
			}
		}
		for _, size := range wrongSizes {
			for _, addr := range []int{0, 1, 100, 65535} {
				refusesDropAt(t, s, addr, size)
			}
		}
	}
}

func TestStoresOfNoneAreFresh(t *testing.T) {
	for room := 1; room <= 8; room++ {
		if left, gone := checkStale(t, plainBus(), storeOf(room, 5)); gone != 0 || !sameStores(left, impl.Store{Room: room, Clock: 5}) {
			t.Error(left, gone)
		}
	}
}

// Each of them, any two of them and so on: all ways to be stale and fresh.
func TestEachOfAStoreFreshOrStale(t *testing.T) {
	for length := 1; length <= 8; length++ {
		s := storeOf(8, 50, slices.Repeat([]int{0}, length)...)
		for i := range s.Units {
			s.Units[i].Used = (i*3 + 5) % 8 * 6
		}
		for stale := range 1 << length {
			b := busWith(s.Units...)
			var want []int
			for i, c := range s.Units {
				if stale>>i&1 == 0 {
					want = append(want, c.Unit.From)
					continue
				}
				// any byte of it, the first one and the last one too
				at := c.Unit.From + (stale*7+i)%(c.Unit.To-c.Unit.From)
				b.Bytes[at] = (b.Bytes[at] + 1 + stale%255) % 256
			}
			left, gone := checkStale(t, b, s)
			if !slices.Equal(fromsOf(left), want) || gone != length-len(want) || left.Clock != 50 || left.Room != 8 {
				t.Fatal(stale, fromsOf(left), gone)
			}
		}
	}
}

// What lies in part in a hole is stale, though the bytes are the same.
func TestUnitsInAHoleAreStale(t *testing.T) {
	s := impl.Store{Room: 8, Clock: 9, Units: []impl.Cached{
		cached(1, 436, longIns()), cached(2, 440, longBlock(2)...), cached(3, 442, flowOf(2), longIns()), cached(4, 444, flowOf(2), longIns()),
		cached(5, 446, longIns()), cached(6, 448, flowOf(2)), cached(7, 492, longIns(), flowOf(2)), cached(8, 496, flowOf(2))}}
	b := fullBus(2)
	clear(b.Bytes[430:500])
	for _, c := range s.Units {
		isGood(t, c.Unit)
		one := impl.Store{Room: 1, Clock: 9, Units: []impl.Cached{c}}
		_, gone := checkStale(t, busWith(c), one)
		if inHole := strings.Contains("444 446 448 492", lettersOfNumber(c.Unit.From)); inHole != (gone == 1) {
			t.Error(c, gone)
		}
	}
	if left, gone := checkStale(t, busWith(s.Units[5:]...), s); !slices.Equal(fromsOf(left), []int{496}) || gone != 7 {
		t.Error(fromsOf(left), gone)
	}
}

func lettersOfNumber(n int) string {
	return string([]byte{byte('0' + n/100), byte('0' + n/10%10), byte('0' + n%10)})
}

// Fresh hangs on the bytes of the units alone: neither on others, nor on the log.
func TestStaleHangsOnNoOtherByte(t *testing.T) {
	s := storeOf(8, 8, 4, 2, 6)
	b := busWith(s.Units...)
	for addr := range 512 {
		other := cloneBus(b)
		other.Bytes[addr] ^= 255
		want := 0
		for _, c := range s.Units {
			if isTouched(c.Unit, addr, 1) {
				want++
			}
		}
		if _, gone := checkStale(t, other, s); gone != want {
			t.Fatal(addr, gone)
		}
	}
	for _, logged := range []int{0, 1, 399, 400} {
		b.Log = logRow(logged)
		if _, gone := checkStale(t, b, s); gone != 0 {
			t.Error(logged, gone)
		}
	}
}

func TestTheCacheRefusesWrongBuses(t *testing.T) {
	for _, b := range wrongBuses() {
		for _, s := range []impl.Store{storeOf(1, 0), storeOf(3, 3, 1, 2, 3), {}} {
			refusesBus(t, b, s)
			for _, pc := range []int{0, 100, 140, 300} {
				refusesUnitFor(t, s, b, pc)
			}
		}
	}
	// also where the unit is there, and its words are
	s := storeOf(3, 3, 1, 2, 3)
	for _, spoil := range []func(*impl.Bus){
		func(b *impl.Bus) { b.Bytes[511] = 256 }, func(b *impl.Bus) { b.Bytes[450] = -1 }, func(b *impl.Bus) { b.Bytes = b.Bytes[:511] }, func(b *impl.Bus) { b.Bytes = append(b.Bytes, 0) },
		func(b *impl.Bus) { b.Log = logRow(401) }, func(b *impl.Bus) { b.Log[1].Code = 4 },
	} {
		b := busWith(s.Units...)
		checkUnitFor(t, s, b, 100)
		spoil(&b)
		refusesUnitFor(t, s, b, 100)
		refusesBus(t, b, s)
	}
}

func TestUnitForFoundAndNot(t *testing.T) {
	code := append(mixedBlock(8), mixedBlock(8)...)
	b := layAt(100, code...)
	for _, k := range []struct {
		s     impl.Store
		pc    int
		ended string
		froms []int
	}{
		{storeOf(1, 0), 100, "translated", []int{100}}, {storeOf(1, 5, 2), 100, "found", []int{100}}, {storeOf(1, 5, 2), 102, "translated", []int{102}},
		{storeOf(2, 5, 2), 102, "translated", []int{100, 102}}, {storeOf(3, 5, 3, 5, 2), 102, "translated", []int{100, 102, 140}}, {storeOf(3, 5, 2, 5, 3), 102, "translated", []int{102, 140, 180}},
		{storeOf(3, 5, 3, 1, 2), 102, "translated", []int{100, 102, 180}}, {storeOf(3, 5, 3, 1, 2), 140, "found", []int{100, 140, 180}},
		// the second word of a long one is none, or another one
		{storeOf(3, 5, 3, 1, 2), 104, "not", nil}, {storeOf(3, 5), 104, "not", nil},
		// where nothing lies, in a hole, and behind all
		{storeOf(3, 5, 3, 1, 2), 0, "not", nil}, {storeOf(3, 5, 3, 1, 2), 98, "not", nil}, {storeOf(3, 5, 3, 1, 2), 450, "not", nil}, {storeOf(3, 5), 510, "not", nil}, {storeOf(3, 5), 512, "not", nil},
		// found, though nothing can be translated there: it is not asked whether it is fresh
		{storeOf(3, 5, 3, 1, 2), 180, "found", []int{100, 140, 180}}, {impl.Store{Room: 1, Clock: 1, Units: []impl.Cached{cached(1, 450, flowOf(2))}}, 450, "found", []int{450}},
		{impl.Store{Room: 1, Clock: 1, Units: []impl.Cached{cached(1, 510, flowOf(2))}}, 510, "found", []int{510}},
	} {
		got, ended := checkUnitFor(t, k.s, b, k.pc)
		if ended != k.ended || k.froms != nil && (!slices.Equal(fromsOf(got), k.froms) || got.Clock != k.s.Clock+1) {
			t.Error(k, ended, got)
		}
		if ended == "not" {
			continue
		}
		if _, again := checkUnitFor(t, got, b, k.pc); again != "found" {
			t.Error(k, again)
		}
	}
}

// What was kept is told, not what lies there now.
func TestUnitForTellsWhatWasKept(t *testing.T) {
	s := impl.Store{Room: 2, Clock: 1, Units: []impl.Cached{cached(1, 100, longBlock(3)...)}}
	b := layAt(100, mixedBlock(4)...)
	_, u, found, ok := impl.UnitFor(s, b, 100)
	if !ok || !found || !sameUnits(u, wantedUnit(100, longBlock(3)...)) {
		t.Error(u, found, ok)
	}
	left, _ := checkStale(t, b, s)
	_, u, found, ok = impl.UnitFor(left, b, 100)
	if !ok || found || !sameUnits(u, wantedUnit(100, mixedBlock(4)...)) {
		t.Error(u, found, ok)
	}
}

func TestUnitForRefusesWrongPlaces(t *testing.T) {
	b := busWith(storeOf(8, 0, 0, 0, 0, 0).Units...)
	for at := 0; at < 512; at += 2 {
		copy(b.Bytes[at:], wantedBytes(2, wantedWords(flowOf(2))[0]))
	}
	for _, s := range []impl.Store{storeOf(1, 0), storeOf(4, 9, 5, 9, 2)} {
		for _, pc := range []int{1, 3, 99, 101, 255, 447, 511, 512, 513, 514, 1024, 65535, 65536, 65636, -1, -2, -100, 1 << 32, 1<<32 + 100, math.MaxInt, math.MaxInt - 1, math.MinInt} {
			refusesUnitFor(t, s, b, pc)
		}
	}
}
