package tests

import (
	"math"
	"slices"
	"testing"

	"loop.example/g00389/impl"
)

// What chapter 13 must answer is worked out here one operation after the other, by the rows of adders and the texts of bits of the chapters before;
// what a note must hold is looked for from the end of the row backwards.

var flagKinds = []int{impl.FkAdd, impl.FkSub, impl.FkCmp, impl.FkLogic, impl.FkTurn}

var wrongFlagKinds = []int{-1, -2, -5, 0, 6, 7, 8, 16, 1<<32 + 1, math.MaxInt, math.MinInt}

func flagOp(kind int, size int, a int, b int) impl.FlagOp {
	return impl.FlagOp{Kind: kind, Size: size, A: a, B: b}
}

func setsFlagX(kind int) bool { return slices.Contains([]int{1, 2}, kind) }

func hasB(kind int) bool { return slices.Contains([]int{1, 2, 3}, kind) }

func wantedGoodOp(x impl.FlagOp) bool {
	top := map[int]int{1: 255, 2: 65535}[x.Size]
	topB := map[int]int{1: top, 2: top, 3: top}[x.Kind]
	return top > 0 && slices.Contains([]int{1, 2, 3, 4, 5}, x.Kind) && 0 <= x.A && x.A <= top && 0 <= x.B && x.B <= topB
}

// wantedMade: what one operation makes of flags.
func wantedMade(flags int, x impl.FlagOp) int {
	told := 0
	switch x.Kind {
	case 1:
		_, told = wantedSum(x.Size, 0, x.A, x.B)
		return told
	case 2:
		_, told = wantedDifference(x.Size, 0, x.A, x.B)
		return told
	case 3:
		_, told = wantedDifference(x.Size, 0, x.A, x.B)
	case 4:
		told = marksOf(x.Size, x.A)
	case 5:
		_, told = wantedShift(impl.ShRol, x.Size, 0, x.A)
	}
	return told%16 + flags/16*16
}

func wantedEager(flags int, l []impl.FlagOp) int {
	for _, x := range l {
		flags = wantedMade(flags, x)
	}
	return flags
}

func wantedNote(flags int, l []impl.FlagOp) impl.Lazy {
	z := impl.Lazy{Base: flags}
	for i := len(l) - 1; i >= 0 && z.Far.Kind == 0; i-- {
		if i == len(l)-1 {
			z.Last = l[i]
		}
		if setsFlagX(l[i].Kind) {
			z.Far = l[i]
		}
	}
	return z
}

// wantedMeant: FlagX of one, the others of the other, each of Base where there is none.
func wantedMeant(z impl.Lazy) int {
	far, others := z.Base, z.Base
	if z.Far.Kind > 0 {
		far = wantedMade(0, z.Far)
	}
	if z.Last.Kind > 0 {
		others = wantedMade(0, z.Last)
	}
	return far/16*16 + others%16
}

// edgesOf: values at which a size carries, borrows, overflows, is nought and is negative.
func edgesOf(size int) []int {
	if size == 1 {
		return []int{0, 1, 64, 127, 128, 129, 255}
	}
	return []int{0, 1, 128, 255, 256, 32767, 32768, 65535}
}

func edgeOpsOf(kind int, size int) []impl.FlagOp {
	var l []impl.FlagOp
	for _, a := range edgesOf(size) {
		l = append(l, flagOp(kind, size, a, 0))
		for _, b := range edgesOf(size)[1:] {
			if hasB(kind) {
				l = append(l, flagOp(kind, size, a, b))
			}
		}
	}
	return l
}

func edgeOps() []impl.FlagOp {
	var l []impl.FlagOp
	for _, kind := range flagKinds {
		for _, size := range sizes {
			l = append(l, edgeOpsOf(kind, size)...)
		}
	}
	return l
}

// fewOps: of each kind some of which each makes other flags.
func fewOps() []impl.FlagOp {
	return []impl.FlagOp{
		flagOp(1, 1, 200, 100), flagOp(1, 2, 32767, 1), flagOp(1, 1, 128, 128), flagOp(1, 2, 3, 4),
		flagOp(2, 1, 0, 1), flagOp(2, 2, 32768, 1), flagOp(2, 1, 7, 7), flagOp(2, 2, 9, 4),
		flagOp(3, 1, 5, 5), flagOp(3, 2, 0, 1), flagOp(3, 1, 127, 255), flagOp(3, 2, 9, 4),
		flagOp(4, 1, 0, 0), flagOp(4, 2, 32768, 0), flagOp(4, 1, 1, 0),
		flagOp(5, 1, 128, 0), flagOp(5, 2, 65535, 0), flagOp(5, 1, 64, 0), flagOp(5, 2, 0, 0), flagOp(5, 2, 1, 0),
	}
}

func sundryOps(s *sundry, length int) []impl.FlagOp {
	all := edgeOps()
	l := make([]impl.FlagOp, length)
	for i := range l {
		l[i] = all[s.below(len(all))]
		// by chance alone nearly all of a row would be sums or compares
		if s.below(2) == 0 {
			size := sizes[s.below(2)]
			l[i] = flagOp(4+s.below(2), size, s.below(greatestOf(size)+1), 0)
		}
	}
	return l
}

// rowsOfKinds: each row of so many kinds.
func rowsOfKinds(length int) [][]int {
	rows := [][]int{nil}
	for range length {
		var longer [][]int
		for _, row := range rows {
			for _, kind := range flagKinds {
				longer = append(longer, append(slices.Clone(row), kind))
			}
		}
		rows = longer
	}
	return rows
}

func opsOfKinds(s *sundry, kinds []int) []impl.FlagOp {
	var l []impl.FlagOp
	for _, kind := range kinds {
		edges := edgeOpsOf(kind, sizes[s.below(2)])
		l = append(l, edges[s.below(len(edges))])
	}
	return l
}

// goodNotes: with each Base, without Last, with Last alone, and with Far behind or beside it.
func goodNotes() []impl.Lazy {
	var l []impl.Lazy
	for base := range 32 {
		l = append(l, impl.Lazy{Base: base})
		for _, last := range fewOps() {
			if setsFlagX(last.Kind) {
				l = append(l, impl.Lazy{Base: base, Last: last, Far: last})
				continue
			}
			l = append(l, impl.Lazy{Base: base, Last: last})
			for _, far := range fewOps() {
				if setsFlagX(far.Kind) {
					l = append(l, impl.Lazy{Base: base, Last: last, Far: far})
				}
			}
		}
	}
	return l
}

func checkMeant(t *testing.T, z impl.Lazy, want int) {
	t.Helper()
	if got, ok := impl.FlagsOf(z); got != want || !ok {
		t.Fatalf("FlagsOf(%v) = %d, %v; want %d", z, got, ok, want)
	}
}

// checkFlagRow: eager and lazy, and what the two operations of the note make by themselves.
func checkFlagRow(t *testing.T, flags int, l []impl.FlagOp) {
	t.Helper()
	want := wantedEager(flags, l)
	if got, ok := impl.EagerFlags(flags, l); got != want || !ok {
		t.Fatalf("EagerFlags(%d, %v) = %d, %v; want %d", flags, l, got, ok, want)
	}
	note := wantedNote(flags, l)
	z, ok := impl.LazyFlags(flags, l)
	if z != note || !ok {
		t.Fatalf("LazyFlags(%d, %v) = %v, %v; want %v", flags, l, z, ok, note)
	}
	if !impl.GoodLazy(z) {
		t.Fatalf("LazyFlags(%d, %v) = %v, which is not good", flags, l, z)
	}
	checkMeant(t, z, want)
}

func TestConstantsOfFlagsThatWait(t *testing.T) {
	if !slices.Equal(flagKinds, []int{1, 2, 3, 4, 5}) || impl.MaxFlagOps != 40 {
		t.Error(flagKinds, impl.MaxFlagOps)
	}
}

func TestGoodFlagOpNamedEdges(t *testing.T) {
	for _, k := range []struct {
		x    impl.FlagOp
		good bool
	}{
		{impl.FlagOp{}, false}, {flagOp(0, 1, 0, 0), false}, {flagOp(0, 2, 5, 5), false}, {flagOp(6, 1, 0, 0), false}, {flagOp(6, 2, 5, 0), false}, {flagOp(-1, 1, 0, 0), false},
		{flagOp(1, 1, 0, 0), true}, {flagOp(1, 1, 255, 255), true}, {flagOp(1, 1, 256, 0), false}, {flagOp(1, 1, 0, 256), false}, {flagOp(1, 1, -1, 0), false}, {flagOp(1, 1, 0, -1), false},
		{flagOp(1, 2, 65535, 65535), true}, {flagOp(1, 2, 65536, 0), false}, {flagOp(1, 2, 0, 65536), false}, {flagOp(1, 0, 0, 0), false}, {flagOp(1, 3, 0, 0), false},
		{flagOp(2, 1, 255, 255), true}, {flagOp(2, 1, 256, 0), false}, {flagOp(2, 1, 0, 256), false}, {flagOp(2, 2, 65535, 65535), true}, {flagOp(2, 2, 0, -1), false},
		{flagOp(3, 1, 255, 255), true}, {flagOp(3, 1, 0, 256), false}, {flagOp(3, 2, 65535, 65535), true}, {flagOp(3, 2, 65536, 0), false}, {flagOp(3, 4, 0, 0), false},
		{flagOp(4, 1, 255, 0), true}, {flagOp(4, 1, 256, 0), false}, {flagOp(4, 1, 0, 1), false}, {flagOp(4, 2, 65535, 0), true}, {flagOp(4, 2, 0, 65535), false}, {flagOp(4, 2, 0, -1), false}, {flagOp(4, -1, 0, 0), false},
		{flagOp(5, 1, 255, 0), true}, {flagOp(5, 1, -1, 0), false}, {flagOp(5, 1, 0, 1), false}, {flagOp(5, 2, 65535, 0), true}, {flagOp(5, 2, 65536, 0), false}, {flagOp(5, 2, 5, 5), false},
	} {
		if good := impl.GoodFlagOp(k.x); good != k.good || wantedGoodOp(k.x) != k.good {
			t.Error(k.x, good)
		}
	}
}

func TestGoodFlagOpOfEachKindSizeAndValue(t *testing.T) {
	values := []int{-65536, -256, -255, -2, -1, 0, 1, 2, 127, 128, 254, 255, 256, 257, 32767, 32768, 65534, 65535, 65536, 65537, 1 << 32, 1<<32 + 1, math.MaxInt, math.MinInt}
	for _, kind := range append(slices.Clone(flagKinds), wrongFlagKinds...) {
		for _, size := range append(slices.Clone(sizes), wrongSizes...) {
			for _, a := range values {
				for _, b := range values {
					x := flagOp(kind, size, a, b)
					if good := impl.GoodFlagOp(x); good != wantedGoodOp(x) {
						t.Fatal(x, good)
					}
				}
			}
		}
	}
}

func TestEagerFlagsNamedEdges(t *testing.T) {
	const c, v, z, n, x = flagC, flagV, flagZ, flagN, flagX
	for _, k := range []struct {
		flags int
		op    impl.FlagOp
		want  int
	}{
		{31, flagOp(1, 1, 0, 0), z}, {31, flagOp(1, 1, 3, 4), 0}, {0, flagOp(1, 1, 255, 1), c | x | z}, {0, flagOp(1, 1, 127, 1), v | n}, {0, flagOp(1, 1, 128, 128), c | x | v | z}, {0, flagOp(1, 1, 255, 255), c | x | n}, {0, flagOp(1, 1, 200, 100), c | x},
		{31, flagOp(1, 2, 255, 1), 0}, {0, flagOp(1, 2, 65535, 1), c | x | z}, {0, flagOp(1, 2, 32767, 1), v | n}, {0, flagOp(1, 2, 32768, 32768), c | x | v | z},
		{31, flagOp(2, 1, 5, 5), z}, {31, flagOp(2, 1, 9, 4), 0}, {0, flagOp(2, 1, 0, 1), c | x | n}, {0, flagOp(2, 1, 128, 1), v}, {0, flagOp(2, 1, 127, 255), c | x | v | n}, {0, flagOp(2, 1, 0, 255), c | x}, {31, flagOp(2, 1, 255, 1), n},
		{31, flagOp(2, 2, 256, 1), 0}, {0, flagOp(2, 2, 0, 1), c | x | n}, {0, flagOp(2, 2, 32768, 1), v}, {0, flagOp(2, 2, 32767, 65535), c | x | v | n},
		{0, flagOp(3, 1, 5, 5), z}, {31, flagOp(3, 1, 5, 5), z | x}, {31, flagOp(3, 1, 9, 4), x}, {0, flagOp(3, 1, 0, 1), c | n}, {x, flagOp(3, 1, 0, 1), c | n | x}, {15, flagOp(3, 1, 128, 1), v}, {0, flagOp(3, 1, 127, 255), c | v | n},
		{0, flagOp(3, 2, 0, 1), c | n}, {31, flagOp(3, 2, 32768, 1), v | x}, {15, flagOp(3, 2, 32767, 65535), c | v | n}, {15, flagOp(3, 2, 128, 1), 0},
		{15, flagOp(4, 1, 0, 0), z}, {31, flagOp(4, 1, 0, 0), z | x}, {15, flagOp(4, 1, 127, 0), 0}, {31, flagOp(4, 1, 128, 0), n | x}, {0, flagOp(4, 1, 255, 0), n},
		{31, flagOp(4, 2, 128, 0), x}, {15, flagOp(4, 2, 32768, 0), n}, {x, flagOp(4, 2, 0, 0), z | x},
		{0, flagOp(5, 1, 0, 0), z}, {31, flagOp(5, 1, 0, 0), z | x}, {0, flagOp(5, 1, 1, 0), 0}, {15, flagOp(5, 1, 64, 0), n}, {0, flagOp(5, 1, 128, 0), c}, {31, flagOp(5, 1, 128, 0), c | x}, {15, flagOp(5, 1, 255, 0), c | n},
		{31, flagOp(5, 2, 128, 0), x}, {15, flagOp(5, 2, 16384, 0), n}, {0, flagOp(5, 2, 32768, 0), c}, {x, flagOp(5, 2, 65535, 0), c | n | x},
	} {
		l := []impl.FlagOp{k.op}
		if got, ok := impl.EagerFlags(k.flags, l); got != k.want || !ok {
			t.Errorf("EagerFlags(%d, %v) = %d, %v; want %d", k.flags, k.op, got, ok, k.want)
		}
		checkFlagRow(t, k.flags, l)
	}
}

func TestFlagsOfNoOperation(t *testing.T) {
	for flags := range 32 {
		for _, none := range [][]impl.FlagOp{nil, {}} {
			if got, ok := impl.EagerFlags(flags, none); got != flags || !ok {
				t.Error("EagerFlags", flags, got, ok)
			}
			z, ok := impl.LazyFlags(flags, none)
			if z != (impl.Lazy{Base: flags}) || !ok {
				t.Error("LazyFlags", flags, z, ok)
			}
			checkMeant(t, z, flags)
		}
	}
}

func TestFlagsOfOneOperation(t *testing.T) {
	for _, x := range edgeOps() {
		for flags := range 32 {
			checkFlagRow(t, flags, []impl.FlagOp{x})
		}
	}
	for _, kind := range flagKinds {
		for a := range 256 {
			for b := range 256 {
				if hasB(kind) || b == 0 {
					checkFlagRow(t, a%2*16, []impl.FlagOp{flagOp(kind, 1, a, b)})
				}
			}
		}
	}
}

func TestFlagsOfTwoOperations(t *testing.T) {
	few := fewOps()
	for _, first := range edgeOps() {
		for _, second := range few {
			for _, flags := range []int{0, 31} {
				checkFlagRow(t, flags, []impl.FlagOp{first, second})
				checkFlagRow(t, flags, []impl.FlagOp{second, first})
			}
		}
	}
}

func TestFlagsOfRowsNamedOneByOne(t *testing.T) {
	const c, v, z, n, x = flagC, flagV, flagZ, flagN, flagX
	carries, none := flagOp(1, 1, 200, 100), flagOp(1, 1, 1, 1)
	borrows, enough := flagOp(2, 2, 0, 1), flagOp(2, 2, 9, 4)
	same, less := flagOp(3, 1, 5, 5), flagOp(3, 1, 4, 5)
	nought, negative := flagOp(4, 2, 0, 0), flagOp(4, 1, 128, 0)
	turned := flagOp(5, 1, 128, 0)
	for _, k := range []struct {
		flags int
		l     []impl.FlagOp
		want  int
		far   impl.FlagOp
	}{
		{0, []impl.FlagOp{carries, same}, z | x, carries},
		{31, []impl.FlagOp{none, same}, z, none},
		{0, []impl.FlagOp{borrows, nought}, z | x, borrows},
		{31, []impl.FlagOp{enough, negative}, n, enough},
		{0, []impl.FlagOp{carries, none, less}, c | n, none},
		{0, []impl.FlagOp{none, carries, less}, c | n | x, carries},
		{0, []impl.FlagOp{carries, enough, nought}, z, enough},
		{0, []impl.FlagOp{enough, borrows, none, carries, turned, negative, same, nought}, z | x, carries},
		{0, []impl.FlagOp{carries, same, turned, none}, 0, none},
		{31, []impl.FlagOp{same, less, nought, negative, turned}, c | x, impl.FlagOp{}},
		{15, []impl.FlagOp{same, less, nought, negative, turned}, c, impl.FlagOp{}},
		{0, []impl.FlagOp{borrows, turned, less, negative}, n | x, borrows},
		{0, []impl.FlagOp{flagOp(1, 2, 65535, 1), flagOp(3, 1, 128, 1)}, v | x, flagOp(1, 2, 65535, 1)},
	} {
		z, ok := impl.LazyFlags(k.flags, k.l)
		if want := (impl.Lazy{Base: k.flags, Last: k.l[len(k.l)-1], Far: k.far}); z != want || !ok {
			t.Error(k, z, ok)
		}
		checkMeant(t, z, k.want)
		if got, ok := impl.EagerFlags(k.flags, k.l); got != k.want || !ok {
			t.Error(k, got, ok)
		}
		checkFlagRow(t, k.flags, k.l)
	}
}

// What sums keeps its carry: only another sum makes FlagX anew.
func TestOnlySumsSetFlagX(t *testing.T) {
	for _, x := range edgeOps() {
		sum, _, _ := impl.AddFlags(x.Size, 0, x.A, x.B)
		carries := map[int]bool{1: sum < x.A, 2: x.A < x.B}[x.Kind]
		for flags := range 32 {
			got, ok := impl.EagerFlags(flags, []impl.FlagOp{x})
			z, _ := impl.LazyFlags(flags, []impl.FlagOp{x})
			meant, _ := impl.FlagsOf(z)
			want := flags & flagX
			if setsFlagX(x.Kind) {
				want = 0
				if carries {
					want = flagX
				}
			}
			if got&flagX != want || meant&flagX != want || !ok {
				t.Fatal(flags, x, got, meant, want, ok)
			}
		}
	}
}

func TestFlagXStaysBehindASum(t *testing.T) {
	for _, far := range edgeOps() {
		if !setsFlagX(far.Kind) {
			continue
		}
		for _, flags := range []int{0, 15, 16, 31} {
			made, _ := impl.EagerFlags(flags, []impl.FlagOp{far})
			l := []impl.FlagOp{far}
			for _, x := range []impl.FlagOp{flagOp(3, 1, 0, 1), flagOp(4, 2, 0, 0), flagOp(5, 1, 128, 0), flagOp(3, 2, 9, 9), flagOp(5, 2, 1, 0), flagOp(4, 1, 128, 0)} {
				l = append(l, x)
				z, _ := impl.LazyFlags(flags, l)
				meant, ok := impl.FlagsOf(z)
				alone, _ := impl.EagerFlags(0, []impl.FlagOp{x})
				if z.Far != far || meant != made&flagX|alone || !ok {
					t.Fatal(flags, l, z, meant, ok)
				}
			}
		}
	}
}

func TestFlagsOfRowsOfAllKinds(t *testing.T) {
	s := &sundry{13}
	for length := range 6 {
		for _, kinds := range rowsOfKinds(length) {
			for range 4 {
				checkFlagRow(t, s.below(32), opsOfKinds(s, kinds))
			}
		}
	}
}

func TestFlagsOfSundryRows(t *testing.T) {
	s := &sundry{1313}
	for length := range 41 {
		for range 60 {
			checkFlagRow(t, s.below(32), sundryOps(s, length))
		}
	}
}

// The one sum of a row counts wherever it is, and the last operation wherever that one is.
func TestOneSumAtEveryPlaceOfALongRow(t *testing.T) {
	quiet := []impl.FlagOp{flagOp(3, 1, 0, 1), flagOp(4, 1, 7, 0), flagOp(5, 2, 32768, 0), flagOp(3, 2, 5, 5), flagOp(4, 2, 0, 0)}
	for length := 1; length <= 40; length++ {
		for place := range length {
			for _, sum := range []impl.FlagOp{flagOp(1, 1, 200, 100), flagOp(1, 2, 200, 100), flagOp(2, 1, 1, 2), flagOp(2, 1, 2, 1)} {
				l := slices.Repeat(quiet, 8)[:length]
				l[place] = sum
				checkFlagRow(t, 0, l)
				checkFlagRow(t, 31, l)
			}
		}
	}
}

// Promise 13: whatever came ahead, the two that the note holds make the same flags of the same Base.
func TestTwoOperationsMakeWhatAllMake(t *testing.T) {
	s := &sundry{131313}
	for length := 1; length <= 40; length++ {
		for range 40 {
			flags, l := s.below(32), sundryOps(s, length)
			z, _ := impl.LazyFlags(flags, l)
			all, _ := impl.EagerFlags(flags, l)
			both := []impl.FlagOp{z.Last}
			if z.Far.Kind > 0 {
				both = []impl.FlagOp{z.Far, z.Last}
			}
			if two, ok := impl.EagerFlags(z.Base, both); two != all || z.Base != flags || !ok {
				t.Fatal(flags, l, z, two, all, ok)
			}
			checkMeant(t, z, all)
		}
	}
}

func TestGoodLazyNamedEdges(t *testing.T) {
	add, sub := flagOp(1, 1, 200, 100), flagOp(2, 1, 200, 100)
	cmp, logic, turn := flagOp(3, 1, 200, 100), flagOp(4, 1, 200, 0), flagOp(5, 1, 200, 0)
	other, wider := flagOp(1, 1, 200, 101), flagOp(1, 2, 200, 100)
	var none impl.FlagOp
	for _, k := range []struct {
		base      int
		last, far impl.FlagOp
		good      bool
	}{
		{0, none, none, true}, {31, none, none, true}, {32, none, none, false}, {-1, none, none, false}, {32, add, add, false}, {-1, cmp, sub, false},
		{0, add, add, true}, {31, sub, sub, true}, {0, add, none, false}, {0, sub, none, false}, {0, add, sub, false}, {0, sub, add, false},
		{0, add, other, false}, {0, other, add, false}, {0, add, wider, false}, {0, wider, add, false}, {0, add, flagOp(1, 1, 201, 100), false},
		{0, cmp, none, true}, {0, logic, none, true}, {31, turn, none, true},
		{0, cmp, add, true}, {0, cmp, sub, true}, {0, logic, add, true}, {0, logic, sub, true}, {0, turn, add, true}, {0, turn, sub, true}, {0, turn, wider, true},
		{0, cmp, cmp, false}, {0, cmp, logic, false}, {0, cmp, turn, false}, {0, logic, cmp, false}, {0, logic, logic, false}, {0, turn, cmp, false}, {0, turn, turn, false}, {0, add, cmp, false}, {0, sub, logic, false},
		{0, none, add, false}, {0, none, sub, false}, {0, none, cmp, false}, {0, none, turn, false}, {31, none, flagOp(0, 1, 0, 0), false}, {0, none, flagOp(0, 0, 0, 1), false},
		{0, flagOp(1, 1, 256, 0), flagOp(1, 1, 256, 0), false}, {0, flagOp(6, 1, 1, 0), none, false}, {0, flagOp(0, 1, 0, 0), none, false}, {0, flagOp(0, 0, 1, 0), none, false}, {0, flagOp(4, 1, 1, 1), none, false}, {0, flagOp(4, 0, 0, 0), none, false},
		{0, cmp, flagOp(1, 1, 256, 0), false}, {0, cmp, flagOp(1, 3, 0, 0), false}, {0, logic, flagOp(2, 1, 0, -1), false}, {0, turn, flagOp(0, 1, 0, 0), false}, {0, turn, flagOp(6, 1, 0, 0), false}, {0, turn, flagOp(0, 0, 0, 5), false}, {0, flagOp(5, 1, 256, 0), add, false},
	} {
		z := impl.Lazy{Base: k.base, Last: k.last, Far: k.far}
		if good := impl.GoodLazy(z); good != k.good {
			t.Error(z, good)
		}
	}
}

func TestGoodLazyOfEachLastAndFar(t *testing.T) {
	all := append(edgeOps(), wrongFlagOps()...)
	all = append(all, impl.FlagOp{})
	for _, last := range append(fewOps(), append(wrongFlagOps(), impl.FlagOp{})...) {
		for _, far := range all {
			want := false
			switch {
			case last == impl.FlagOp{}:
				want = far == impl.FlagOp{}
			case setsFlagX(last.Kind):
				want = wantedGoodOp(last) && far == last
			default:
				want = wantedGoodOp(last) && (far == impl.FlagOp{} || wantedGoodOp(far) && setsFlagX(far.Kind))
			}
			for _, base := range []int{0, 31} {
				if good := impl.GoodLazy(impl.Lazy{Base: base, Last: last, Far: far}); good != want {
					t.Fatal(base, last, far, good)
				}
			}
			for _, base := range wrongFlags {
				if impl.GoodLazy(impl.Lazy{Base: base, Last: last, Far: far}) {
					t.Fatal(base, last, far)
				}
			}
		}
	}
}

func TestNoteFlagOpOfEachKindBehindEachKind(t *testing.T) {
	for _, z := range goodNotes() {
		for _, x := range fewOps() {
			want := impl.Lazy{Base: z.Base, Last: x, Far: z.Far}
			if setsFlagX(x.Kind) {
				want.Far = x
			}
			got, ok := impl.NoteFlagOp(z, x)
			if got != want || !ok || !impl.GoodLazy(got) {
				t.Fatalf("NoteFlagOp(%v, %v) = %v, %v; want %v", z, x, got, ok, want)
			}
			checkMeant(t, got, wantedMade(wantedMeant(z), x))
		}
	}
}

func TestNotedOneByOne(t *testing.T) {
	s := &sundry{4}
	for range 40 {
		flags := s.below(32)
		l := sundryOps(s, 40)
		z, _ := impl.LazyFlags(flags, nil)
		for i, x := range l {
			z, _ = impl.NoteFlagOp(z, x)
			if want, ok := impl.LazyFlags(flags, l[:i+1]); z != want || !ok {
				t.Fatal(flags, l[:i+1], z, want, ok)
			}
		}
	}
}

// A note has no end: the limit is one of rows.
func TestMoreNotedThanARowHas(t *testing.T) {
	s := &sundry{5}
	flags := 16
	l := sundryOps(s, 300)
	z := impl.Lazy{Base: flags}
	for i, x := range l {
		next, ok := impl.NoteFlagOp(z, x)
		if want := wantedNote(flags, l[:i+1]); next != want || !ok {
			t.Fatal(i, z, x, next, ok)
		}
		checkMeant(t, next, wantedEager(flags, l[:i+1]))
		z = next
	}
}

func TestFlagsOfNotes(t *testing.T) {
	for _, z := range goodNotes() {
		if !impl.GoodLazy(z) {
			t.Fatal("not good", z)
		}
		checkMeant(t, z, wantedMeant(z))
	}
}

func TestFlagsOfNotesNamedOneByOne(t *testing.T) {
	const c, v, z, n, x = flagC, flagV, flagZ, flagN, flagX
	carries, none := flagOp(1, 1, 255, 1), flagOp(2, 1, 9, 4)
	for _, k := range []struct {
		note impl.Lazy
		want int
	}{
		{impl.Lazy{}, 0}, {impl.Lazy{Base: 31}, 31}, {impl.Lazy{Base: x}, x}, {impl.Lazy{Base: c | n}, c | n},
		{impl.Lazy{Base: 31, Last: flagOp(4, 1, 3, 0)}, x}, {impl.Lazy{Base: 15, Last: flagOp(4, 1, 3, 0)}, 0}, {impl.Lazy{Base: 15, Last: flagOp(3, 2, 0, 1)}, c | n}, {impl.Lazy{Base: x, Last: flagOp(5, 2, 32768, 0)}, c | x},
		{impl.Lazy{Last: carries, Far: carries}, c | x | z}, {impl.Lazy{Base: 31, Last: none, Far: none}, 0},
		{impl.Lazy{Last: flagOp(3, 1, 128, 1), Far: carries}, v | x}, {impl.Lazy{Base: 31, Last: flagOp(3, 1, 128, 1), Far: none}, v},
		{impl.Lazy{Last: flagOp(4, 1, 1, 0), Far: carries}, x}, {impl.Lazy{Base: x, Last: flagOp(4, 1, 255, 0), Far: none}, n}, {impl.Lazy{Base: x, Last: flagOp(5, 1, 192, 0), Far: none}, c | n},
	} {
		checkMeant(t, k.note, k.want)
	}
}

func TestCondOfEachCondition(t *testing.T) {
	for _, z := range goodNotes() {
		flags := wantedMeant(z)
		for cond := range 16 {
			told, _ := impl.TestCond(cond, flags)
			if is, ok := impl.CondOf(z, cond); is != wantedCond(cond, flags) || is != told || !ok {
				t.Fatalf("CondOf(%v, %d) = %v, %v; its flags are %d", z, cond, is, ok, flags)
			}
		}
	}
}

func TestCondOfNamedEdges(t *testing.T) {
	less := impl.Lazy{Base: 31, Last: flagOp(3, 1, 200, 5)}
	over := impl.Lazy{Last: flagOp(1, 2, 32767, 1), Far: flagOp(1, 2, 32767, 1)}
	for _, k := range []struct {
		z    impl.Lazy
		cond int
		is   bool
	}{
		{impl.Lazy{}, impl.CcTrue, true}, {impl.Lazy{}, impl.CcFalse, false}, {impl.Lazy{}, impl.CcHigh, true}, {impl.Lazy{Base: 31}, impl.CcHigh, false}, {impl.Lazy{Base: 4}, impl.CcSame, true},
		{less, impl.CcLess, true}, {less, impl.CcHigh, true}, {less, impl.CcCarry, false}, {less, impl.CcSame, false}, {less, impl.CcAtMost, true}, {less, impl.CcMinus, true},
		{over, impl.CcOver, true}, {over, impl.CcMinus, true}, {over, impl.CcAtLeast, true}, {over, impl.CcGreater, true}, {over, impl.CcNoCarry, true}, {over, impl.CcPlus, false},
	} {
		if is, ok := impl.CondOf(k.z, k.cond); is != k.is || !ok {
			t.Error(k, is, ok)
		}
	}
}

func TestCarryOf(t *testing.T) {
	carries, none := flagOp(1, 1, 255, 255), flagOp(1, 1, 3, 4)
	borrows, same := flagOp(3, 1, 0, 1), flagOp(3, 1, 5, 5)
	for _, k := range []struct {
		z    impl.Lazy
		c, x int
	}{
		{impl.Lazy{}, 0, 0}, {impl.Lazy{Base: 1}, 1, 0}, {impl.Lazy{Base: 16}, 0, 1}, {impl.Lazy{Base: 17}, 1, 1}, {impl.Lazy{Base: 14}, 0, 0}, {impl.Lazy{Base: 31}, 1, 1},
		{impl.Lazy{Last: carries, Far: carries}, 1, 1}, {impl.Lazy{Base: 31, Last: none, Far: none}, 0, 0},
		{impl.Lazy{Last: same, Far: carries}, 0, 1}, {impl.Lazy{Last: borrows, Far: carries}, 1, 1}, {impl.Lazy{Base: 31, Last: borrows, Far: none}, 1, 0}, {impl.Lazy{Base: 31, Last: same, Far: none}, 0, 0},
		{impl.Lazy{Last: borrows}, 1, 0}, {impl.Lazy{Base: 16, Last: borrows}, 1, 1}, {impl.Lazy{Base: 17, Last: same}, 0, 1}, {impl.Lazy{Base: 1, Last: same}, 0, 0},
		{impl.Lazy{Base: 1, Last: flagOp(5, 1, 128, 0)}, 1, 0}, {impl.Lazy{Base: 1, Last: flagOp(5, 1, 1, 0)}, 0, 0}, {impl.Lazy{Base: 17, Last: flagOp(4, 1, 128, 0)}, 0, 1},
	} {
		if c, x, ok := impl.CarryOf(k.z); c != k.c || x != k.x || !ok {
			t.Error(k, c, x, ok)
		}
	}
	for _, z := range goodNotes() {
		flags := wantedMeant(z)
		if c, x, ok := impl.CarryOf(z); c != flags%2 || x != flags/16 || !ok {
			t.Fatal(z, flags, c, x, ok)
		}
	}
}

func wrongFlagOps() []impl.FlagOp {
	var l []impl.FlagOp
	for _, kind := range wrongFlagKinds {
		l = append(l, flagOp(kind, 1, 0, 0), flagOp(kind, 2, 5, 4))
	}
	for _, kind := range flagKinds {
		for _, size := range wrongSizes {
			l = append(l, flagOp(kind, size, 0, 0), flagOp(kind, size, 1, 0))
		}
		for _, size := range sizes {
			for _, v := range wrongValues(size) {
				l = append(l, flagOp(kind, size, v, 0), flagOp(kind, size, 0, v), flagOp(kind, size, v, v))
			}
			if !hasB(kind) {
				l = append(l, flagOp(kind, size, 0, 1), flagOp(kind, size, 7, greatestOf(size)))
			}
		}
	}
	return l
}

func wrongNotes() []impl.Lazy {
	add, cmp := flagOp(1, 1, 200, 100), flagOp(3, 1, 5, 5)
	l := []impl.Lazy{{Far: add}, {Far: cmp}, {Last: add}, {Last: add, Far: flagOp(2, 1, 200, 100)}, {Last: cmp, Far: cmp}, {Last: cmp, Far: flagOp(4, 1, 0, 0)}, {Last: cmp, Far: flagOp(5, 1, 0, 0)}}
	for _, base := range wrongFlags {
		l = append(l, impl.Lazy{Base: base}, impl.Lazy{Base: base, Last: add, Far: add}, impl.Lazy{Base: base, Last: cmp}, impl.Lazy{Base: base, Last: cmp, Far: add})
	}
	for _, x := range wrongFlagOps() {
		l = append(l, impl.Lazy{Base: 31, Last: x}, impl.Lazy{Last: x, Far: x}, impl.Lazy{Last: x, Far: add}, impl.Lazy{Last: cmp, Far: x}, impl.Lazy{Far: x})
	}
	return l
}

func refusesFlagRow(t *testing.T, flags int, l []impl.FlagOp) {
	t.Helper()
	if got, ok := impl.EagerFlags(flags, l); got != 0 || ok {
		t.Fatalf("EagerFlags(%d, %v) = %d, %v; want the zero answer", flags, l, got, ok)
	}
	if z, ok := impl.LazyFlags(flags, l); z != (impl.Lazy{}) || ok {
		t.Fatalf("LazyFlags(%d, %v) = %v, %v; want the zero answer", flags, l, z, ok)
	}
}

func refusesNoting(t *testing.T, z impl.Lazy, x impl.FlagOp) {
	t.Helper()
	if got, ok := impl.NoteFlagOp(z, x); got != (impl.Lazy{}) || ok {
		t.Fatalf("NoteFlagOp(%v, %v) = %v, %v; want the zero answer", z, x, got, ok)
	}
}

func refusesCondOf(t *testing.T, z impl.Lazy, cond int) {
	t.Helper()
	if is, ok := impl.CondOf(z, cond); is || ok {
		t.Fatalf("CondOf(%v, %d) = %v, %v; want the zero answer", z, cond, is, ok)
	}
}

func TestWrongFlagsOfRowsAreRefused(t *testing.T) {
	for _, flags := range wrongFlags {
		for _, l := range [][]impl.FlagOp{nil, fewOps()[:1], fewOps(), {flagOp(6, 1, 0, 0)}} {
			refusesFlagRow(t, flags, l)
		}
	}
}

func TestAWrongOperationAtEveryPlaceIsRefused(t *testing.T) {
	for _, x := range append(wrongFlagOps(), impl.FlagOp{}) {
		if impl.GoodFlagOp(x) {
			t.Fatal("it is good", x)
		}
		for _, length := range []int{1, 2, 3, 40} {
			for _, place := range []int{0, length / 2, length - 1} {
				l := slices.Repeat(fewOps(), 2)[:length]
				l[place] = x
				refusesFlagRow(t, 0, l)
			}
		}
	}
	for length := 1; length <= 40; length++ {
		for place := range length {
			for _, x := range []impl.FlagOp{{}, flagOp(4, 1, 0, 1), flagOp(1, 1, 256, 0)} {
				l := slices.Repeat(fewOps(), 2)[:length]
				l[place] = x
				refusesFlagRow(t, 31, l)
			}
		}
	}
}

func TestMoreOperationsThanThereMayBe(t *testing.T) {
	for _, x := range fewOps() {
		most := slices.Repeat([]impl.FlagOp{x}, 40)
		checkFlagRow(t, 0, most)
		checkFlagRow(t, 31, most)
	}
	for _, length := range []int{41, 42, 80, 256, 1000} {
		refusesFlagRow(t, 0, slices.Repeat(fewOps(), 50)[:length])
		refusesFlagRow(t, 31, make([]impl.FlagOp, length))
		refusesFlagRow(t, 32, slices.Repeat(fewOps(), 50)[:length])
	}
}

func TestWrongNotesAreRefused(t *testing.T) {
	for _, z := range wrongNotes() {
		if impl.GoodLazy(z) {
			t.Fatal("it is good", z)
		}
		if flags, ok := impl.FlagsOf(z); flags != 0 || ok {
			t.Fatalf("FlagsOf(%v) = %d, %v; want the zero answer", z, flags, ok)
		}
		if c, x, ok := impl.CarryOf(z); c != 0 || x != 0 || ok {
			t.Fatalf("CarryOf(%v) = %d, %d, %v; want the zero answer", z, c, x, ok)
		}
		for cond := -2; cond < 20; cond++ {
			refusesCondOf(t, z, cond)
		}
		for _, x := range fewOps() {
			refusesNoting(t, z, x)
		}
		refusesNoting(t, z, impl.FlagOp{})
	}
}

func TestWrongOperationsAreNotNoted(t *testing.T) {
	notes := []impl.Lazy{{}, {Base: 31}, {Last: flagOp(3, 1, 5, 5)}, {Base: 16, Last: flagOp(1, 1, 9, 9), Far: flagOp(1, 1, 9, 9)}, {Last: flagOp(4, 1, 9, 0), Far: flagOp(2, 2, 9, 9)}}
	for _, z := range notes {
		if !impl.GoodLazy(z) {
			t.Fatal("not good", z)
		}
		for _, x := range append(wrongFlagOps(), impl.FlagOp{}) {
			refusesNoting(t, z, x)
		}
	}
}

func TestCondOfRefusesWrongConditions(t *testing.T) {
	for i, z := range goodNotes() {
		for _, cond := range wrongConds {
			if i%7 == 0 {
				refusesCondOf(t, z, cond)
			}
		}
	}
}

// roomyOps is a row with good and wrong operations behind its end.
func roomyOps(length int) []impl.FlagOp {
	memory := append(slices.Repeat(fewOps(), 3), impl.FlagOp{}, flagOp(6, 7, -1, -1))
	return memory[:length]
}

func spoilOps(l []impl.FlagOp) {
	l = l[:cap(l)]
	for i := range l {
		l[i] = flagOp(-9, -9, -9, -9)
	}
}

func TestFlagsThatWaitWriteIntoNone(t *testing.T) {
	for _, length := range []int{0, 1, 2, 20, 39, 40, 41, 62} {
		for _, flags := range []int{0, 31, 32} {
			l := roomyOps(length)
			want := slices.Clone(l[:cap(l)])
			impl.EagerFlags(flags, l)
			impl.LazyFlags(flags, l)
			if !slices.Equal(l[:cap(l)], want) {
				t.Fatal("an argument's memory was changed", length, flags)
			}
		}
	}
}

// What lies behind a row's end is none of it, and what is done with a row later is not seen in its note.
func TestFlagsThatWaitAnswerNewMemory(t *testing.T) {
	for length := range 41 {
		for _, flags := range []int{0, 16, 31} {
			l := roomyOps(length)
			kept := slices.Clone(l)
			first, ok := impl.LazyFlags(flags, l)
			second, _ := impl.LazyFlags(flags, l)
			third, _ := impl.NoteFlagOp(first, flagOp(1, 1, 255, 1))
			spoilOps(l)
			third.Last.A, third.Far.A, second.Base, second.Last.B, second.Far = -9, -9, -9, -9, impl.FlagOp{}
			if first != wantedNote(flags, kept) || !ok {
				t.Fatal("an answer shares memory", length, flags, first, ok)
			}
			checkMeant(t, first, wantedEager(flags, kept))
		}
	}
}

// Asked again, and in between of others, a note tells the same: nothing is kept from call to call.
func TestFlagsThatWaitTellTheSameAgain(t *testing.T) {
	notes := goodNotes()
	for i, z := range notes {
		first, _ := impl.FlagsOf(z)
		impl.FlagsOf(notes[len(notes)-1-i])
		impl.FlagsOf(impl.Lazy{Base: 32})
		impl.CondOf(z, 99)
		if again, ok := impl.FlagsOf(z); again != first || !ok {
			t.Fatal(z, first, again, ok)
		}
	}
}
