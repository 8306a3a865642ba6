package tests

import (
	"slices"
	"testing"

	"loop.example/g00389/impl"
)

// Long plays with a store: each answer is held against the line, and promise 16 is asked for behind each; then whose memory an answer is.

// sundryPlace: even ones mostly, so often the same that much is found.
func sundryPlace(s *sundry, store impl.Store) int {
	switch n := len(store.Units); {
	case n > 0 && s.below(2) == 0:
		return store.Units[s.below(n)].Unit.From
	case s.below(12) == 0:
		return s.below(515) - 1
	}
	return 2 * s.below(256)
}

// A byte or a word anywhere, into a unit oftener.
func sundryTouched(s *sundry, store impl.Store) (addr int, size int) {
	addr, size = s.below(512), 1+s.below(2)
	if n := len(store.Units); n > 0 && s.below(2) == 0 {
		u := store.Units[s.below(n)].Unit
		addr = max(u.From-1+s.below(u.To-u.From+1), 0)
	}
	return addr, size
}

func TestSundryPlaysWithAStore(t *testing.T) {
	s := &sundry{seed: 1600}
	ended, full, droppedAt, droppedStale := map[string]int{}, 0, map[int]int{}, map[int]int{}
	for round := range 120 {
		b := fullOfCode(s)
		store, _ := impl.NewStore(1 + round%8)
		for range 60 {
			before := store
			switch s.below(10) {
			case 0:
				addr, size := sundryTouched(s, store)
				var gone int
				store, gone = checkDropAt(t, store, addr, size)
				droppedAt[gone]++
			case 1:
				b.Bytes[s.below(512)] = s.below(256)
				var gone int
				store, gone = checkStale(t, b, store)
				droppedStale[gone]++
			case 2:
				u := wantedUnit(2*s.below(240), sundryBlock(s, 1+s.below(8))...)
				store = checkPut(t, store, u)
			case 3:
				if got := checkFind(t, store, sundryPlace(s, store)); got.Room > 0 {
					store = got
				}
			default:
				var how string
				store, how = checkUnitFor(t, store, b, sundryPlace(s, store))
				ended[how]++
			}
			isGoodStore(t, store)
			if store.Room != before.Room || store.Clock < before.Clock || len(store.Units) > 1+round%8 {
				t.Fatal("there is more than room", store)
			}
			if len(store.Units) == store.Room {
				full++
			}
		}
	}
	if ended["found"] < 500 || ended["translated"] < 500 || ended["not"] < 100 || full < 500 || droppedAt[0] < 50 || droppedAt[1] < 50 || droppedAt[2] < 5 || droppedStale[0] < 50 || droppedStale[1] < 50 || droppedStale[2] < 20 {
		t.Error(ended, full, droppedAt, droppedStale)
	}
}

// What an access that wrote touches goes, and so all is fresh again; what went so was touched.
func TestBehindAWriteWhatItTouchesGoes(t *testing.T) {
	s := &sundry{seed: 1601}
	seen := map[int]int{}
	for round := range 200 {
		b := fullOfCode(s)
		store, _ := impl.NewStore(1 + round%8)
		for range 20 {
			if got, _, _, ok := impl.UnitFor(store, b, 2*s.below(256)); ok {
				store = got
			}
			addr, size := sundryTouched(s, store)
			after, _, code, ok := impl.Touch(b, impl.AccWrite, size, addr, s.below(256))
			if !ok {
				t.Fatal("Touch", addr, size)
			}
			if code != impl.BusOk {
				checkStale(t, after, store)
				continue
			}
			stale, staleGone := checkStale(t, after, store)
			left, gone := checkDropAt(t, store, addr, size)
			if fresh, ok := impl.AllFresh(after, left); !fresh || !ok || staleGone > gone || len(stale.Units) < len(left.Units) {
				t.Fatal("behind a write", addr, size, left)
			}
			seen[gone]++
			b, store = after, left
			b.Log = nil
		}
	}
	if seen[0] < 100 || seen[1] < 100 {
		t.Error(seen)
	}
}

// As long as there is room none leaves; then they leave as they came, where none is found in between.
func TestTheyLeaveInTheOrderInWhichTheyWereUsed(t *testing.T) {
	b := layAt(100, shortBlock(100)...)
	for room := 1; room <= 8; room++ {
		store, _ := impl.NewStore(room)
		for i := range 40 {
			pc := 100 + 2*(i*7%90)
			store, _ = checkUnitFor(t, store, b, pc)
			var want []int
			for k := max(i-room+1, 0); k <= i; k++ {
				want = append(want, 100+2*(k*7%90))
			}
			slices.Sort(want)
			if !slices.Equal(fromsOf(store), want) {
				t.Fatal(room, i, fromsOf(store), want)
			}
		}
	}
	// one that is found each time stays for ever
	store, _ := impl.NewStore(3)
	for i := range 60 {
		store, _ = checkUnitFor(t, store, b, 100)
		store, _ = checkUnitFor(t, store, b, 102+2*i)
		if store.Units[0].Unit.From != 100 {
			t.Fatal(i, fromsOf(store))
		}
	}
}

// The same is told each time: nothing hangs on the order in which units are gone through.
func TestTheSameIsToldEachTime(t *testing.T) {
	s := storeOf(8, 99, 42, 17, 99, 63, 8, 71, 20, 35)
	b := busWith(s.Units[3:6]...)
	for range 200 {
		checkFind(t, s, 260)
		checkPut(t, s, wantedUnit(0, flowOf(2)))
		if _, gone := checkDropAt(t, s, 221, 2); gone != 1 {
			t.Fatal(gone)
		}
		if left, gone := checkStale(t, b, s); gone != 5 || !slices.Equal(fromsOf(left), []int{220, 260, 300}) {
			t.Fatal(gone, fromsOf(left))
		}
	}
}

// storeMemory: all that a store's lists reach, what lies behind them too.
type storeMemory struct {
	units  []impl.Cached
	micros []impl.Micro
}

func (m storeMemory) clone() storeMemory {
	return storeMemory{cloneStore(impl.Store{Units: m.units}).Units, slices.Clone(m.micros)}
}

func (m storeMemory) same(o storeMemory) bool {
	return sameStores(impl.Store{Units: m.units}, impl.Store{Units: o.units}) && slices.Equal(m.micros, o.micros)
}

// roomyStore: as storeOf, but all its micros lie in one row, one unit's behind the other's, with room behind the last, as there is behind the units.
func roomyStore(room int, clock int, uses ...int) (impl.Store, storeMemory) {
	s := storeOf(room, clock, uses...)
	var m storeMemory
	for _, c := range s.Units {
		m.micros = append(m.micros, c.Unit.List...)
	}
	m.micros = append(m.micros, slices.Repeat([]impl.Micro{{X: impl.Ins{Op: -7}, At: -7, Skip: true}}, 9)...)
	at := 0
	for i := range s.Units {
		length := len(s.Units[i].Unit.List)
		s.Units[i].Unit.List = m.micros[at : at+length]
		at += length
	}
	m.units = append(s.Units, cached(1, 400, flowOf(2)), cached(1, 402, flowOf(2)), impl.Cached{Unit: impl.Unit{From: -9}, Used: -9})
	s.Units = m.units[:len(uses)]
	return s, m
}

// spoilStore changes all that an answer's lists reach, behind them too.
func spoilStore(s impl.Store) {
	units := s.Units[:cap(s.Units)]
	for i := range units {
		spoilMicros(units[i].Unit.List)
		units[i] = impl.Cached{Unit: impl.Unit{From: -3}, Used: -3}
	}
}

func isNothingBehind(t *testing.T, s impl.Store) {
	t.Helper()
	for _, c := range s.Units[len(s.Units):cap(s.Units)] {
		if c.Used != 0 || !isNoUnit(c.Unit) {
			t.Fatal("behind the units lies", c)
		}
	}
	for _, c := range s.Units {
		isNoMicroBehind(t, c.Unit)
	}
}

func isNoMicroBehind(t *testing.T, u impl.Unit) {
	t.Helper()
	for _, m := range u.List[len(u.List):cap(u.List)] {
		if m != (impl.Micro{}) {
			t.Fatal("behind the micros lies", m)
		}
	}
}

// storeAnswers: of every function, of the same arguments.
func storeAnswers(s impl.Store, b impl.Bus, u impl.Unit) ([]impl.Store, []impl.Unit) {
	found, one, _ := impl.FindUnit(s, 140)
	put, _ := impl.PutUnit(s, u)
	again, _ := impl.PutUnit(s, s.Units[1].Unit)
	kept, two, _, _ := impl.UnitFor(s, b, 140)
	new, three, _, _ := impl.UnitFor(s, b, u.From)
	left, _, _ := impl.DropAt(s, 500, 2)
	less, _, _ := impl.DropAt(s, 100, 1)
	fresh, _, _ := impl.DropStale(b, s)
	return []impl.Store{found, put, again, kept, new, left, less, fresh}, []impl.Unit{one, two, three}
}

func TestTheCacheWritesIntoNone(t *testing.T) {
	for length := 2; length <= 8; length++ {
		for _, room := range []int{length, 8} {
			s, m := roomyStore(room, 50, countUp(length)...)
			u, micros := roomyUnit(60, mixedBlock(length)...)
			b := busWith(append(s.Units, impl.Cached{Unit: u})...)
			b.Bytes[101] ^= 1
			wantMemory, wantMicros, wantBus := m.clone(), slices.Clone(micros), cloneBus(b)
			isGoodStore(t, s)
			impl.AllFresh(b, s)
			stores, units := storeAnswers(s, b, u)
			for _, got := range stores {
				isGoodStore(t, got)
				isNothingBehind(t, got)
				spoilStore(got)
			}
			for _, got := range units {
				isGood(t, got)
				isNoMicroBehind(t, got)
				spoilMicros(got.List)
			}
			if !m.same(wantMemory) || !slices.Equal(micros, wantMicros) || !sameBus(b, wantBus) {
				t.Fatal("an argument's memory was changed", length)
			}
		}
	}
}

// Nor into what is not good, nor where the answer is false.
func TestWhatTheCacheRefusesIsNotChanged(t *testing.T) {
	for _, clock := range []int{50, 1000000, 1000001} {
		s, m := roomyStore(3, clock, 30, 10, 20)
		u, micros := roomyUnit(60, mixedBlock(8)...)
		b := busWith(s.Units...)
		wantMemory, wantMicros, wantBus := m.clone(), slices.Clone(micros), cloneBus(b)
		storeAnswers(s, b, u)
		refusesFind(t, s, 102)
		refusesUnitFor(t, s, b, 101)
		refusesDropAt(t, s, -1, 1)
		u.To++
		refusesStored(t, s, u)
		refusesBus(t, impl.Bus{Bytes: b.Bytes[:511]}, s)
		if !m.same(wantMemory) || !slices.Equal(micros, wantMicros) || !sameBus(b, wantBus) {
			t.Fatal("an argument's memory was changed", clock)
		}
	}
}

// What is behind a list's length is not read: with it or without, the same is told.
func TestTheCacheReadsNothingBehindAList(t *testing.T) {
	for length := 2; length <= 8; length++ {
		roomy, _ := roomyStore(8, 50, countUp(length)...)
		plain := storeOf(8, 50, countUp(length)...)
		u, _ := roomyUnit(60, mixedBlock(length)...)
		b := busWith(append(plain.Units, impl.Cached{Unit: u})...)
		stores, units := storeAnswers(roomy, b, u)
		wantStores, wantUnits := storeAnswers(plain, b, cloneUnit(u))
		if !slices.EqualFunc(stores, wantStores, sameStores) || !slices.EqualFunc(units, wantUnits, sameUnits) {
			t.Fatal(length, stores, wantStores)
		}
	}
}

func TestTheCacheAnswersNewMemory(t *testing.T) {
	for length := 2; length <= 8; length++ {
		s, m := roomyStore(length, 50, countUp(length)...)
		u := wantedUnit(60, mixedBlock(length)...)
		b := busWith(append(s.Units, impl.Cached{Unit: u})...)
		stores, units := storeAnswers(s, b, u)
		var wantStores []impl.Store
		for _, got := range stores {
			wantStores = append(wantStores, cloneStore(got))
		}
		wantUnits := []impl.Unit{cloneUnit(units[0]), cloneUnit(units[1]), cloneUnit(units[2])}
		// the arguments' memory, and what was told another time
		others, more := storeAnswers(s, b, u)
		for _, got := range others {
			spoilStore(got)
		}
		for _, got := range more {
			spoilMicros(got.List)
		}
		spoilMicros(m.micros)
		clear(m.units)
		spoilMicros(u.List)
		spoil(b.Bytes)
		if !slices.EqualFunc(stores, wantStores, sameStores) || !slices.EqualFunc(units, wantUnits, sameUnits) {
			t.Fatal("an answer shares memory", length)
		}
		// the unit told beside a store is not the one that is in it
		for _, got := range units {
			spoilMicros(got.List)
		}
		if !slices.EqualFunc(stores, wantStores, sameStores) {
			t.Fatal("a unit shares memory with a store", length)
		}
	}
}

func TestNoTwoUnitsOfAStoreShareMemory(t *testing.T) {
	for length := 2; length <= 8; length++ {
		s, _ := roomyStore(length, 50, countUp(length)...)
		u, _ := roomyUnit(60, mixedBlock(length)...)
		b := busWith(append(s.Units, impl.Cached{Unit: u})...)
		stores, _ := storeAnswers(s, b, u)
		for _, got := range stores {
			for i := range got.Units {
				want := cloneStore(got)
				spoilMicros(got.Units[i].Unit.List)
				want.Units[i] = cloneStore(got).Units[i]
				if !sameStores(got, want) {
					t.Fatal("two units share memory", i, got)
				}
			}
		}
	}
}

func TestNewStoreAnswersNewMemory(t *testing.T) {
	first, _ := impl.NewStore(3)
	first.Units = append(first.Units, cached(0, 100, flowOf(2)))
	if second, ok := impl.NewStore(3); !ok || len(second.Units) != 0 || cap(second.Units) != 0 && !isNoUnit(second.Units[:1][0].Unit) {
		t.Error(second, ok)
	}
}
