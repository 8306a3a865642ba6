package tests

import (
	"math"
	"slices"
	"strconv"
	"strings"
	"testing"

	"loop.example/g00389/impl"
)

// What chapter 4 must answer is worked out here on a text with one letter an address, which is asked byte for byte,
// and on words written in hexadecimal digits, two a byte.

var addressLetters = strings.Repeat("m", 384) + strings.Repeat("f", 64) + strings.Repeat("h", 48) +
	strings.Repeat("m", 16) + strings.Repeat("h", 65536-512)

var accessKinds = []int{impl.AccRead, impl.AccWrite, impl.AccFetch}

var busCodes = []int{impl.BusOk, impl.BusHole, impl.BusOdd, impl.BusRom}

var wrongAccessKinds = []int{0, -1, -2, -3, 4, 5, 256, math.MaxInt, math.MinInt}

var wrongAddresses = []int{-1, -2, -65536, 65536, 65537, 65538, 1 << 17, 1 << 32, math.MaxInt, math.MaxInt - 1, math.MinInt}

var wrongBytes = []int{-1, -128, -255, -256, 256, 257, 65535, 1 << 32, math.MaxInt, math.MinInt}

// edgeAddresses: around the first and the last address of each part, and of all.
var edgeAddresses = []int{0, 1, 2, 3, 382, 383, 384, 385, 386, 446, 447, 448, 449, 494, 495, 496, 497, 498, 510, 511, 512, 513, 514, 1023, 1024, 32767, 32768, 65533, 65534, 65535}

func wantedPart(addr int) int {
	return map[byte]int{'m': impl.BusOk, 'f': impl.BusRom, 'h': impl.BusHole}[addressLetters[addr]]
}

func wantedCode(kind int, size int, addr int) int {
	if size == impl.SizeWord && addr&1 == 1 {
		return impl.BusOdd
	}
	letters := addressLetters[addr : addr+size]
	if strings.Contains(letters, "h") {
		return impl.BusHole
	}
	if kind == impl.AccWrite && strings.Contains(letters, "f") {
		return impl.BusRom
	}
	return impl.BusOk
}

func hexText(bytes []int) string {
	text := ""
	for _, v := range bytes {
		text += strconv.FormatInt(int64(v+256), 16)[1:]
	}
	return text
}

func wantedValue(bytes []int) int {
	v, err := strconv.ParseInt(hexText(bytes), 16, 64)
	if err != nil {
		panic(err)
	}
	return int(v)
}

// wantedBytes: a value of a size, its higher byte first.
func wantedBytes(size int, v int) []int {
	text := strconv.FormatInt(int64(v)+1<<24, 16)
	text = text[len(text)-2*size:]
	var bytes []int
	for ; text != ""; text = text[2:] {
		one, _ := strconv.ParseInt(text[:2], 16, 64)
		bytes = append(bytes, int(one))
	}
	return bytes
}

func sameBus(a impl.Bus, b impl.Bus) bool {
	return slices.Equal(a.Bytes, b.Bytes) && slices.Equal(a.Log, b.Log)
}

func cloneBus(b impl.Bus) impl.Bus {
	return impl.Bus{Bytes: append([]int(nil), b.Bytes...), Log: append([]impl.Access(nil), b.Log...)}
}

// fullBytes: no two neighbours alike, and no part 0, holes neither.
func fullBytes(seed int) []int {
	l := make([]int, impl.MemSize)
	for i := range l {
		l[i] = (i*37+seed)%255 + 1
	}
	return l
}

func fullBus(logged int) impl.Bus {
	return impl.Bus{Bytes: fullBytes(3), Log: logRow(logged)}
}

// logRow: accesses of all kinds, sizes and codes that a log has.
func logRow(length int) []impl.Access {
	var l []impl.Access
	for i := 0; len(l) < length; i++ {
		a := impl.Access{Kind: i%3 + 1, Size: i/3%2 + 1, Addr: i * 911 % 65536, Value: i * 7 % 256, Code: i / 5 % 4}
		if a.Kind != impl.AccFetch || a.Code != impl.BusOk {
			l = append(l, a)
		}
	}
	return l
}

// wantedTouch: the bus behind an access, the value told and the code.
func wantedTouch(b impl.Bus, kind int, size int, addr int, value int) (impl.Bus, int, int) {
	b = cloneBus(b)
	code := wantedCode(kind, size, addr)
	told := 0
	if code == impl.BusOk {
		if kind == impl.AccWrite {
			b.Bytes = slices.Replace(b.Bytes, addr, addr+size, wantedBytes(size, value)...)
		} else {
			told = wantedValue(b.Bytes[addr : addr+size])
			value = told
		}
	}
	if len(b.Log) < 400 && !(kind == impl.AccFetch && code == impl.BusOk) {
		b.Log = append(b.Log, impl.Access{Kind: kind, Size: size, Addr: addr, Value: value, Code: code})
	}
	return b, told, code
}

func checkTouch(t *testing.T, b impl.Bus, kind int, size int, addr int, value int) impl.Bus {
	t.Helper()
	want, wantTold, wantCode := wantedTouch(b, kind, size, addr, value)
	got, told, code, ok := impl.Touch(b, kind, size, addr, value)
	if !ok || told != wantTold || code != wantCode {
		t.Fatalf("Touch(%d, %d, %d, %d) tells %d, %d, %v; want %d, %d", kind, size, addr, value, told, code, ok, wantTold, wantCode)
	}
	if !sameBus(got, want) {
		t.Fatalf("Touch(%d, %d, %d, %d): the bus is not as wanted: %v", kind, size, addr, value, got)
	}
	return got
}

func TestConstantsOfTheBus(t *testing.T) {
	got := []int{impl.MemSize, impl.RomFrom, impl.HoleFrom, impl.PortFrom, impl.MaxLog}
	if !slices.Equal(got, []int{512, 384, 448, 496, 400}) {
		t.Error(got)
	}
	if !slices.Equal(accessKinds, []int{1, 2, 3}) || !slices.Equal(busCodes, []int{0, 1, 2, 3}) {
		t.Error(accessKinds, busCodes)
	}
}

func TestKindOfEveryAddress(t *testing.T) {
	for addr := range 65536 {
		if k, ok := impl.KindOf(addr); k != wantedPart(addr) || !ok {
			t.Fatalf("KindOf(%d) = %d, %v", addr, k, ok)
		}
	}
}

func TestKindOfEdges(t *testing.T) {
	for _, k := range []struct{ addr, want int }{
		{0, impl.BusOk}, {383, impl.BusOk}, {384, impl.BusRom}, {447, impl.BusRom}, {448, impl.BusHole}, {495, impl.BusHole},
		{496, impl.BusOk}, {511, impl.BusOk}, {512, impl.BusHole}, {65535, impl.BusHole},
	} {
		if got, ok := impl.KindOf(k.addr); got != k.want || !ok {
			t.Errorf("KindOf(%d) = %d, %v; want %d", k.addr, got, ok, k.want)
		}
	}
}

func TestNewBusLaysItsBytes(t *testing.T) {
	for _, k := range []struct{ ram, rom int }{{0, 0}, {1, 0}, {0, 1}, {2, 1}, {383, 63}, {384, 0}, {0, 64}, {384, 64}, {384, 63}, {383, 64}} {
		all := fullBytes(k.ram)
		ram, rom := all[:k.ram], all[400:400+k.rom]
		want := make([]int, 512)
		for i, v := range ram {
			want[i] = v
		}
		for i, v := range rom {
			want[384+i] = v
		}
		b, ok := impl.NewBus(ram, rom)
		if !ok || !slices.Equal(b.Bytes, want) || len(b.Log) != 0 || !impl.GoodBus(b) {
			t.Errorf("NewBus of %d and %d bytes: %v, %v", k.ram, k.rom, b, ok)
		}
	}
	if b, ok := impl.NewBus(nil, nil); !ok || !slices.Equal(b.Bytes, make([]int, 512)) || len(b.Log) != 0 {
		t.Error("NewBus of none", b, ok)
	}
	if b, ok := impl.NewBus([]int{0, 255}, []int{255, 0, 1}); !ok || b.Bytes[1] != 255 || b.Bytes[384] != 255 || b.Bytes[386] != 1 {
		t.Error("NewBus of the least and the greatest bytes", b, ok)
	}
}

func TestGoodBuses(t *testing.T) {
	for _, logged := range []int{0, 1, 2, 100, 399, 400} {
		if !impl.GoodBus(fullBus(logged)) {
			t.Error("a log of", logged)
		}
	}
	for _, v := range []int{0, 255} {
		if !impl.GoodBus(impl.Bus{Bytes: slices.Repeat([]int{v}, 512)}) {
			t.Error("bytes of", v)
		}
	}
	for _, kind := range accessKinds {
		for _, size := range sizes {
			for _, code := range busCodes {
				for _, addr := range edgeAddresses {
					for _, v := range []int{0, greatestOf(size)} {
						b := impl.Bus{Bytes: fullBytes(1), Log: []impl.Access{{Kind: kind, Size: size, Addr: addr, Value: v, Code: code}}}
						want := kind != impl.AccFetch || code != impl.BusOk
						if impl.GoodBus(b) != want {
							t.Fatal(b.Log)
						}
					}
				}
			}
		}
	}
}

func TestTouchEdges(t *testing.T) {
	const read, write, fetch = impl.AccRead, impl.AccWrite, impl.AccFetch
	const fine, hole, odd, rom = impl.BusOk, impl.BusHole, impl.BusOdd, impl.BusRom
	b := impl.Bus{Bytes: make([]int, 512)}
	for i := range b.Bytes {
		b.Bytes[i] = i % 256
	}
	for _, k := range []struct{ kind, size, addr, value, told, code int }{
		// the first and the last address of each part
		{read, 1, 0, 0, 0, fine}, {read, 1, 1, 0, 1, fine}, {read, 1, 383, 0, 127, fine}, {read, 1, 384, 0, 128, fine}, {read, 1, 447, 0, 191, fine}, {read, 1, 448, 0, 0, hole}, {read, 1, 495, 0, 0, hole}, {read, 1, 496, 0, 240, fine}, {read, 1, 511, 0, 255, fine}, {read, 1, 512, 0, 0, hole}, {read, 1, 65535, 0, 0, hole},
		{write, 1, 0, 9, 0, fine}, {write, 1, 383, 255, 0, fine}, {write, 1, 384, 9, 0, rom}, {write, 1, 447, 0, 0, rom}, {write, 1, 448, 9, 0, hole}, {write, 1, 495, 9, 0, hole}, {write, 1, 496, 9, 0, fine}, {write, 1, 511, 9, 0, fine}, {write, 1, 512, 9, 0, hole}, {write, 1, 65535, 9, 0, hole},
		{fetch, 1, 0, 0, 0, fine}, {fetch, 1, 383, 0, 127, fine}, {fetch, 1, 384, 0, 128, fine}, {fetch, 1, 447, 0, 191, fine}, {fetch, 1, 448, 0, 0, hole}, {fetch, 1, 495, 0, 0, hole}, {fetch, 1, 496, 0, 240, fine}, {fetch, 1, 511, 0, 255, fine}, {fetch, 1, 512, 0, 0, hole}, {fetch, 1, 65535, 0, 0, hole},
		{read, 2, 0, 0, 1, fine}, {read, 2, 2, 0, 515, fine}, {read, 2, 382, 0, 32383, fine}, {read, 2, 384, 0, 32897, fine}, {read, 2, 446, 0, 48831, fine}, {read, 2, 448, 0, 0, hole}, {read, 2, 494, 0, 0, hole}, {read, 2, 496, 0, 61681, fine}, {read, 2, 510, 0, 65279, fine}, {read, 2, 512, 0, 0, hole}, {read, 2, 65534, 0, 0, hole},
		{write, 2, 0, 65535, 0, fine}, {write, 2, 382, 256, 0, fine}, {write, 2, 384, 256, 0, rom}, {write, 2, 446, 0, 0, rom}, {write, 2, 448, 1, 0, hole}, {write, 2, 494, 1, 0, hole}, {write, 2, 496, 1, 0, fine}, {write, 2, 510, 258, 0, fine}, {write, 2, 512, 1, 0, hole}, {write, 2, 65534, 1, 0, hole},
		{fetch, 2, 0, 0, 1, fine}, {fetch, 2, 382, 0, 32383, fine}, {fetch, 2, 384, 0, 32897, fine}, {fetch, 2, 446, 0, 48831, fine}, {fetch, 2, 448, 0, 0, hole}, {fetch, 2, 494, 0, 0, hole}, {fetch, 2, 496, 0, 61681, fine}, {fetch, 2, 510, 0, 65279, fine}, {fetch, 2, 512, 0, 0, hole}, {fetch, 2, 65534, 0, 0, hole},
		// a word at an odd address: also where its second byte lies in the next part, where it is fixed, in a hole, or the last one
		{read, 2, 1, 0, 0, odd}, {read, 2, 383, 0, 0, odd}, {read, 2, 385, 0, 0, odd}, {read, 2, 447, 0, 0, odd}, {read, 2, 449, 0, 0, odd}, {read, 2, 495, 0, 0, odd}, {read, 2, 511, 0, 0, odd}, {read, 2, 513, 0, 0, odd}, {read, 2, 65535, 0, 0, odd},
		{write, 2, 1, 7, 0, odd}, {write, 2, 383, 7, 0, odd}, {write, 2, 385, 7, 0, odd}, {write, 2, 447, 7, 0, odd}, {write, 2, 449, 7, 0, odd}, {write, 2, 495, 7, 0, odd}, {write, 2, 511, 7, 0, odd}, {write, 2, 513, 7, 0, odd}, {write, 2, 65535, 7, 0, odd},
		{fetch, 2, 1, 0, 0, odd}, {fetch, 2, 383, 0, 0, odd}, {fetch, 2, 447, 0, 0, odd}, {fetch, 2, 449, 0, 0, odd}, {fetch, 2, 495, 0, 0, odd}, {fetch, 2, 511, 0, 0, odd}, {fetch, 2, 65535, 0, 0, odd},
	} {
		after, told, code, ok := impl.Touch(b, k.kind, k.size, k.addr, k.value)
		if told != k.told || code != k.code || !ok {
			t.Errorf("Touch(%d, %d, %d, %d) tells %d, %d, %v; want %d, %d", k.kind, k.size, k.addr, k.value, told, code, ok, k.told, k.code)
		}
		var log []impl.Access
		if k.kind != fetch || k.code != fine {
			log = []impl.Access{{Kind: k.kind, Size: k.size, Addr: k.addr, Value: k.told + k.value, Code: k.code}}
		}
		if !slices.Equal(after.Log, log) {
			t.Errorf("Touch(%d, %d, %d, %d) logs %v; want %v", k.kind, k.size, k.addr, k.value, after.Log, log)
		}
	}
}

func TestTouchEveryAddress(t *testing.T) {
	b := fullBus(2)
	for _, kind := range accessKinds {
		for _, size := range sizes {
			value := 0
			if kind == impl.AccWrite {
				value = 0xA5C3 & greatestOf(size)
			}
			for addr := range 600 {
				checkTouch(t, b, kind, size, addr, value)
			}
			for addr := 600; addr < 65536; addr += 83 {
				checkTouch(t, b, kind, size, addr, value)
			}
			for _, addr := range edgeAddresses {
				checkTouch(t, b, kind, size, addr, value)
			}
		}
	}
}

func TestEveryValueIsWrittenAndRead(t *testing.T) {
	b := fullBus(0)
	for _, size := range sizes {
		for _, v := range valuesOf(size) {
			for _, addr := range []int{0, 200, 496, 512 - size} {
				after := checkTouch(t, b, impl.AccWrite, size, addr, v)
				for _, kind := range []int{impl.AccRead, impl.AccFetch} {
					if _, told, code, ok := impl.Touch(after, kind, size, addr, 0); told != v || code != impl.BusOk || !ok {
						t.Fatalf("%d was written at %d: %d is read, %d, %v", v, addr, told, code, ok)
					}
				}
			}
		}
	}
}

func TestAWordLiesInTwoBytes(t *testing.T) {
	b, _ := impl.NewBus(nil, nil)
	b, _, _, _ = impl.Touch(b, impl.AccWrite, impl.SizeWord, 20, 0x1234)
	if b.Bytes[19] != 0 || b.Bytes[20] != 0x12 || b.Bytes[21] != 0x34 || b.Bytes[22] != 0 {
		t.Error(b.Bytes[19:23])
	}
	b, _, _, _ = impl.Touch(b, impl.AccWrite, impl.SizeByte, 21, 0x56)
	if v, ok := impl.PeekWord(b, 20); v != 0x1256 || !ok {
		t.Error(v, ok)
	}
	for addr, want := range map[int]int{20: 0x12, 21: 0x56, 22: 0} {
		if _, v, code, ok := impl.Touch(b, impl.AccRead, impl.SizeByte, addr, 0); v != want || code != impl.BusOk || !ok {
			t.Error(addr, v, code, ok)
		}
	}
}

func TestTheLogAsFarAsThereIsRoom(t *testing.T) {
	for _, logged := range []int{0, 1, 398, 399, 400} {
		b := fullBus(logged)
		for _, kind := range accessKinds {
			for _, size := range sizes {
				for _, addr := range []int{10, 11, 400, 450, 496, 600} {
					checkTouch(t, b, kind, size, addr, 0)
				}
			}
		}
		after := checkTouch(t, b, impl.AccWrite, impl.SizeWord, 30, 0xBEEF)
		if v, ok := impl.PeekWord(after, 30); v != 0xBEEF || !ok {
			t.Error("what is written with a full log", logged, v, ok)
		}
	}
}

func TestAccessesOneBehindTheOther(t *testing.T) {
	b, _ := impl.NewBus(fullBytes(9)[:384], fullBytes(40)[:64])
	for i := range 700 {
		kind, size := i*7%3+1, i/2%2+1
		addr := i * i * 31 % 530
		value := 0
		if kind == impl.AccWrite {
			value = i * 40503 % (greatestOf(size) + 1)
		}
		b = checkTouch(t, b, kind, size, addr, value)
	}
	if len(b.Log) != 400 {
		t.Error("the log is not full", len(b.Log))
	}
}

func TestPeekWordEveryAddress(t *testing.T) {
	b := fullBus(1)
	for addr := range 65536 {
		want, wantOk := 0, addr%2 == 0 && addressLetters[addr] != 'h'
		if wantOk {
			want = wantedValue(b.Bytes[addr : addr+2])
		}
		if addr > 700 && addr < 65500 && addr%97 > 1 {
			continue
		}
		if v, ok := impl.PeekWord(b, addr); v != want || ok != wantOk {
			t.Fatalf("PeekWord(%d) = %d, %v; want %d, %v", addr, v, ok, want, wantOk)
		}
	}
	ends := impl.Bus{Bytes: slices.Repeat([]int{255}, 512), Log: logRow(400)}
	for _, addr := range []int{0, 382, 384, 446, 496, 510} {
		if v, ok := impl.PeekWord(ends, addr); v != 65535 || !ok {
			t.Error(addr, v, ok)
		}
	}
}

func TestLogOfTellsAKindInOrder(t *testing.T) {
	for _, logged := range []int{0, 1, 2, 3, 50, 400} {
		b := fullBus(logged)
		for _, kind := range accessKinds {
			want := slices.DeleteFunc(logRow(logged), func(a impl.Access) bool { return a.Kind != kind })
			if l, ok := impl.LogOf(b, kind); !slices.Equal(l, want) || !ok {
				t.Fatalf("LogOf(%d) of %d: %v, %v", kind, logged, l, ok)
			}
		}
	}
	b, _ := impl.NewBus([]int{1, 2}, nil)
	for _, k := range []struct{ kind, addr int }{{impl.AccRead, 0}, {impl.AccFetch, 0}, {impl.AccWrite, 4}, {impl.AccFetch, 450}, {impl.AccRead, 1}} {
		b, _, _, _ = impl.Touch(b, k.kind, impl.SizeWord, k.addr, 0)
	}
	reads, _ := impl.LogOf(b, impl.AccRead)
	if !slices.Equal(reads, []impl.Access{{Kind: impl.AccRead, Size: 2, Value: 258}, {Kind: impl.AccRead, Size: 2, Addr: 1, Code: impl.BusOdd}}) {
		t.Error(reads)
	}
	writes, _ := impl.LogOf(b, impl.AccWrite)
	if !slices.Equal(writes, []impl.Access{{Kind: impl.AccWrite, Size: 2, Addr: 4}}) {
		t.Error(writes)
	}
	fetches, _ := impl.LogOf(b, impl.AccFetch)
	if !slices.Equal(fetches, []impl.Access{{Kind: impl.AccFetch, Size: 2, Addr: 450, Code: impl.BusHole}}) {
		t.Error(fetches)
	}
}

func TestSameMemoryAsksForEachByte(t *testing.T) {
	a := fullBus(0)
	if same, ok := impl.SameMemory(a, fullBus(7)); !same || !ok {
		t.Error("the log counts", same, ok)
	}
	if same, ok := impl.SameMemory(a, a); !same || !ok {
		t.Error("with itself", same, ok)
	}
	for i := range 512 {
		b := cloneBus(a)
		b.Bytes[i]--
		if same, ok := impl.SameMemory(a, b); same || !ok {
			t.Fatal(i, same, ok)
		}
		if same, ok := impl.SameMemory(b, a); same || !ok {
			t.Fatal(i, same, ok)
		}
	}
}

func wrongLogged() []impl.Access {
	good := impl.Access{Kind: impl.AccRead, Size: impl.SizeByte, Addr: 5, Value: 5, Code: impl.BusOk}
	l := []impl.Access{
		{},
		{Kind: impl.AccFetch, Size: impl.SizeByte, Addr: 5, Value: 5, Code: impl.BusOk},
		{Kind: impl.AccFetch, Size: impl.SizeWord, Addr: 4, Value: 0, Code: impl.BusOk},
	}
	for _, kind := range wrongAccessKinds {
		a := good
		a.Kind = kind
		l = append(l, a)
	}
	for _, size := range wrongSizes {
		a := good
		a.Size = size
		l = append(l, a)
	}
	for _, addr := range wrongAddresses {
		a := good
		a.Addr = addr
		l = append(l, a)
	}
	for _, size := range sizes {
		for _, v := range wrongValues(size) {
			a := good
			a.Size, a.Value = size, v
			l = append(l, a)
		}
	}
	for _, code := range []int{-1, -2, 4, 5, 256, math.MaxInt, math.MinInt} {
		a := good
		a.Code = code
		l = append(l, a)
	}
	return l
}

func wrongBuses() []impl.Bus {
	l := []impl.Bus{{}, {Log: logRow(2)}}
	for _, length := range []int{1, 384, 448, 496, 511, 513, 514, 1024} {
		l = append(l, impl.Bus{Bytes: make([]int, length)})
	}
	for _, length := range []int{401, 402, 800} {
		l = append(l, fullBus(length))
	}
	for i, v := range wrongBytes {
		for _, addr := range []int{0, 383, 384, 450, 500, 511, i * 31} {
			b := fullBus(1)
			b.Bytes[addr] = v
			l = append(l, b)
		}
	}
	for i, a := range wrongLogged() {
		b := fullBus(6)
		b.Log[i%6] = a
		l = append(l, b)
	}
	return l
}

func refusesTouch(t *testing.T, b impl.Bus, kind int, size int, addr int, value int) {
	t.Helper()
	if after, told, code, ok := impl.Touch(b, kind, size, addr, value); len(after.Bytes) != 0 || len(after.Log) != 0 || told != 0 || code != 0 || ok {
		t.Fatalf("Touch(%d, %d, %d, %d) = %v, %d, %d, %v", kind, size, addr, value, after, told, code, ok)
	}
}

func refusesNewBus(t *testing.T, ram []int, rom []int) {
	t.Helper()
	if b, ok := impl.NewBus(ram, rom); len(b.Bytes) != 0 || len(b.Log) != 0 || ok {
		t.Fatal(len(ram), len(rom), b, ok)
	}
}

func TestEveryFunctionRefusesWrongBuses(t *testing.T) {
	good := fullBus(3)
	for _, b := range wrongBuses() {
		if impl.GoodBus(b) {
			t.Fatal("GoodBus", b)
		}
		for _, kind := range accessKinds {
			refusesTouch(t, b, kind, impl.SizeByte, 0, 0)
			refusesTouch(t, b, kind, impl.SizeWord, 450, 0)
			if l, ok := impl.LogOf(b, kind); len(l) != 0 || ok {
				t.Fatal("LogOf", l, ok)
			}
		}
		if v, ok := impl.PeekWord(b, 0); v != 0 || ok {
			t.Fatal("PeekWord", v, ok)
		}
		for _, pair := range [][2]impl.Bus{{b, good}, {good, b}, {b, b}} {
			if same, ok := impl.SameMemory(pair[0], pair[1]); same || ok {
				t.Fatal("SameMemory", same, ok)
			}
		}
	}
}

func TestTouchRefusesWhatIsNoAccess(t *testing.T) {
	b := fullBus(3)
	for _, kind := range wrongAccessKinds {
		refusesTouch(t, b, kind, impl.SizeByte, 0, 0)
		refusesTouch(t, b, kind, impl.SizeWord, 0, 0)
		if l, ok := impl.LogOf(b, kind); len(l) != 0 || ok {
			t.Fatal("LogOf", kind, l, ok)
		}
	}
	for _, kind := range accessKinds {
		for _, size := range wrongSizes {
			refusesTouch(t, b, kind, size, 0, 0)
		}
		for _, size := range sizes {
			for _, addr := range wrongAddresses {
				refusesTouch(t, b, kind, size, addr, 0)
			}
			for _, v := range wrongValues(size) {
				for _, addr := range []int{0, 1, 384, 450, 600} {
					refusesTouch(t, b, kind, size, addr, v)
				}
			}
		}
	}
	for _, kind := range []int{impl.AccRead, impl.AccFetch} {
		for _, size := range sizes {
			for _, v := range []int{1, 2, 128, 255} {
				for _, addr := range []int{0, 1, 384, 450, 600} {
					refusesTouch(t, b, kind, size, addr, v)
				}
			}
		}
	}
}

func TestAddressesThatAreNone(t *testing.T) {
	b := fullBus(0)
	for _, addr := range wrongAddresses {
		if k, ok := impl.KindOf(addr); k != 0 || ok {
			t.Error("KindOf", addr, k, ok)
		}
		if v, ok := impl.PeekWord(b, addr); v != 0 || ok {
			t.Error("PeekWord", addr, v, ok)
		}
	}
	for _, addr := range []int{1, 383, 385, 447, 448, 449, 494, 495, 497, 511, 512, 513, 65534, 65535} {
		if v, ok := impl.PeekWord(b, addr); v != 0 || ok {
			t.Error("PeekWord", addr, v, ok)
		}
	}
}

func TestNewBusRefusesWrongLists(t *testing.T) {
	for _, length := range []int{385, 386, 512, 1000} {
		refusesNewBus(t, make([]int, length), nil)
	}
	for _, length := range []int{65, 66, 128, 512} {
		refusesNewBus(t, nil, make([]int, length))
	}
	refusesNewBus(t, make([]int, 385), make([]int, 65))
	for _, v := range wrongBytes {
		for _, at := range []int{0, 1, 383} {
			ram := make([]int, 384)
			ram[at] = v
			refusesNewBus(t, ram, nil)
		}
		for _, at := range []int{0, 1, 63} {
			rom := make([]int, 64)
			rom[at] = v
			refusesNewBus(t, nil, rom)
		}
	}
}

// roomyBus has room behind both lists, filled with what no bus has.
func roomyBus(logged int) (impl.Bus, []int, []impl.Access) {
	bytes := append(fullBytes(3), slices.Repeat([]int{-7}, 40)...)
	log := append(logRow(logged), slices.Repeat([]impl.Access{{Kind: -7}}, 40)...)
	return impl.Bus{Bytes: bytes[:512], Log: log[:logged]}, bytes, log
}

func TestTheBusWritesIntoNone(t *testing.T) {
	for _, logged := range []int{0, 1, 399, 400} {
		b, bytes, log := roomyBus(logged)
		wantBytes, wantLog := slices.Clone(bytes), slices.Clone(log)
		for _, kind := range accessKinds {
			for _, size := range sizes {
				for _, addr := range edgeAddresses {
					checkTouch(t, b, kind, size, addr, 0)
				}
			}
			impl.LogOf(b, kind)
		}
		impl.Touch(b, impl.AccWrite, impl.SizeWord, 2, 65535)
		impl.PeekWord(b, 0)
		impl.SameMemory(b, b)
		impl.GoodBus(b)
		impl.NewBus(bytes[:384], bytes[:64])
		if !slices.Equal(bytes, wantBytes) || !slices.Equal(log, wantLog) {
			t.Fatal("an argument's memory was changed", logged)
		}
	}
}

func TestTheBusAnswersNewMemory(t *testing.T) {
	for _, kind := range accessKinds {
		b, bytes, log := roomyBus(5)
		want, _, _ := wantedTouch(b, kind, impl.SizeWord, 450, 0)
		first, _, _, _ := impl.Touch(b, kind, impl.SizeWord, 450, 0)
		second, _, _, _ := impl.Touch(first, kind, impl.SizeWord, 450, 0)
		clear(bytes)
		clear(log)
		clear(second.Bytes)
		clear(second.Log)
		if !sameBus(first, want) {
			t.Error("Touch's answer shares memory", kind)
		}
	}
	all := fullBytes(2)
	b, _ := impl.NewBus(all[:384], all[:64])
	again, _ := impl.NewBus(all[:384], all[:64])
	clear(all)
	clear(again.Bytes)
	if !slices.Equal(b.Bytes[:384], fullBytes(2)[:384]) || !slices.Equal(b.Bytes[384:448], fullBytes(2)[:64]) {
		t.Error("NewBus's answer shares memory")
	}
	logged := fullBus(9)
	l, _ := impl.LogOf(logged, impl.AccWrite)
	other, _ := impl.LogOf(logged, impl.AccWrite)
	want := slices.Clone(l)
	clear(logged.Log)
	clear(other)
	if len(l) == 0 || !slices.Equal(l, want) {
		t.Error("LogOf's answer shares memory", l)
	}
}
