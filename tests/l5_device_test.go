package tests

import (
	"math"
	"slices"
	"strings"
	"testing"

	"loop.example/g00389/impl"
)

// What chapter 5 must answer is worked out here on texts: a stroke for each tick that is left, a letter for each byte of a row.

type textDevice struct {
	every, left string
	rung        bool
	in, out     string
	lost        int
}

var devKinds = []int{impl.DvTick, impl.DvCome, impl.DvRead, impl.DvWrite}

var ports = []int{0, 1, 2, 3}

var wrongDevKinds = []int{0, -1, -2, -4, 5, 6, 256, math.MaxInt, math.MinInt}

var wrongPorts = []int{-1, -2, -4, 4, 5, 256, math.MaxInt, math.MinInt}

var notZero = []int{-1, 1, 2, 3, 4, 255, 256, math.MaxInt, math.MinInt}

func strokes(n int) string { return strings.Repeat("|", n) }

func lettersOf(l []int) string {
	text := make([]byte, len(l))
	for i, v := range l {
		text[i] = byte(v)
	}
	return string(text)
}

func bytesOf(text string) []int {
	var l []int
	for _, v := range []byte(text) {
		l = append(l, int(v))
	}
	return l
}

func textOf(d impl.Device) textDevice {
	return textDevice{every: strokes(d.Every), left: strokes(d.Left), rung: d.Rung, in: lettersOf(d.In), out: lettersOf(d.Out), lost: d.Lost}
}

func (d textDevice) device() impl.Device {
	return impl.Device{Every: len(d.every), Left: len(d.left), Rung: d.rung, In: bytesOf(d.in), Out: bytesOf(d.out), Lost: d.lost}
}

func wantedRead(d textDevice, port int) (textDevice, int) {
	switch port {
	case 0:
		return d, len(d.every)
	case 1:
		rung := map[bool]int{true: 1}[d.rung]
		d.rung = false
		return d, rung
	case 2:
		if d.in == "" {
			return d, 0
		}
		first := int(d.in[0])
		d.in = d.in[1:]
		return d, first
	}
	return d, len(d.in)
}

func wantedWrite(d textDevice, port int, v int) textDevice {
	switch port {
	case 0:
		d.every, d.left = strokes(v), strokes(v)
	case 1:
		d.rung = false
	case 2:
		if len(d.out) < 200 {
			d.out += string([]byte{byte(v)})
		}
	case 3:
		d.in = ""
	}
	return d
}

func wantedTick(d textDevice) textDevice {
	if d.every == "" {
		return d
	}
	d.left = strings.TrimPrefix(d.left, "|")
	if d.left == "" {
		d.left, d.rung = d.every, true
	}
	return d
}

func wantedCome(d textDevice, v int) textDevice {
	if len(d.in) < 4 {
		d.in += string([]byte{byte(v)})
	} else if d.lost < 1000 {
		d.lost++
	}
	return d
}

func wantedStep(d textDevice, x impl.DevStep) (textDevice, int) {
	switch x.Kind {
	case impl.DvTick:
		return wantedTick(d), 0
	case impl.DvCome:
		return wantedCome(d, x.V), 0
	case impl.DvRead:
		return wantedRead(d, x.K)
	}
	return wantedWrite(d, x.K, x.V), 0
}

func wantedLevel(d textDevice) int {
	heard := []int{0}
	if d.in != "" {
		heard = append(heard, 2)
	}
	if d.rung {
		heard = append(heard, 5)
	}
	return slices.Max(heard)
}

func sameDevice(a impl.Device, b impl.Device) bool {
	return a.Every == b.Every && a.Left == b.Left && a.Rung == b.Rung && a.Lost == b.Lost &&
		slices.Equal(a.In, b.In) && slices.Equal(a.Out, b.Out)
}

// rowOfBytes: no two neighbours alike, and 0 and 255 among the first.
func rowOfBytes(length int) []int {
	var l []int
	for i := range length {
		l = append(l, (i*255+i/2*7)%256)
	}
	return l
}

// edgeDevices: each field at its edges, with each other's.
func edgeDevices() []impl.Device {
	var l []impl.Device
	for _, time := range [][2]int{{0, 0}, {1, 0}, {1, 1}, {2, 1}, {2, 2}, {8, 8}, {255, 0}, {255, 1}, {255, 2}, {255, 254}, {255, 255}} {
		for _, rung := range []bool{false, true} {
			for _, in := range []int{0, 1, 2, 3, 4} {
				for _, out := range []int{0, 1, 199, 200} {
					for _, lost := range []int{0, 1, 999, 1000} {
						l = append(l, impl.Device{Every: time[0], Left: time[1], Rung: rung, In: rowOfBytes(in), Out: rowOfBytes(out), Lost: lost})
					}
				}
			}
		}
	}
	return l
}

// edgeSteps: every kind, every port, the least and the greatest byte.
func edgeSteps() []impl.DevStep {
	l := []impl.DevStep{{Kind: impl.DvTick}}
	for _, v := range []int{0, 1, 77, 254, 255} {
		l = append(l, impl.DevStep{Kind: impl.DvCome, V: v})
		for _, port := range ports {
			l = append(l, impl.DevStep{Kind: impl.DvWrite, K: port, V: v})
		}
	}
	for _, port := range ports {
		l = append(l, impl.DevStep{Kind: impl.DvRead, K: port})
	}
	return l
}

func checkStep(t *testing.T, d impl.Device, x impl.DevStep) impl.Device {
	t.Helper()
	want, wantTold := wantedStep(textOf(d), x)
	got, told, ok := impl.StepDevice(d, x)
	if !ok || told != wantTold || !sameDevice(got, want.device()) {
		t.Fatalf("StepDevice(%v, %v) = %v, %d, %v; want %v, %d", d, x, got, told, ok, want.device(), wantTold)
	}
	return got
}

func checkPlay(t *testing.T, l []impl.DevStep) (impl.Device, []int) {
	t.Helper()
	want := textDevice{every: strokes(8), left: strokes(8)}
	var wantTold []int
	for _, x := range l {
		told := 0
		want, told = wantedStep(want, x)
		wantTold = append(wantTold, told)
	}
	got, told, ok := impl.PlayDevice(l)
	if !ok || !slices.Equal(told, wantTold) || !sameDevice(got, want.device()) {
		t.Fatalf("PlayDevice(%v) = %v, %v, %v; want %v, %v", l, got, told, ok, want.device(), wantTold)
	}
	return got, told
}

func TestConstantsOfDevices(t *testing.T) {
	got := []int{impl.MaxFifo, impl.MaxDevSteps, impl.LevelTimer, impl.LevelLine}
	if !slices.Equal(got, []int{4, 80, 5, 2}) || !slices.Equal(devKinds, []int{1, 2, 3, 4}) {
		t.Error(got, devKinds)
	}
}

func TestNewDevice(t *testing.T) {
	d := impl.NewDevice()
	if !sameDevice(d, impl.Device{Every: 8, Left: 8}) || !impl.GoodDevice(d) {
		t.Error(d)
	}
}

func TestGoodDevices(t *testing.T) {
	for _, d := range edgeDevices() {
		if !impl.GoodDevice(d) {
			t.Fatal(d)
		}
	}
	for v := range 256 {
		if !impl.GoodDevice(impl.Device{Every: v, Left: v, In: []int{v}, Out: []int{v}, Lost: v}) {
			t.Fatal(v)
		}
	}
	for lost := range 1001 {
		if !impl.GoodDevice(impl.Device{Lost: lost}) {
			t.Fatal(lost)
		}
	}
	for out := range 201 {
		if !impl.GoodDevice(impl.Device{Out: rowOfBytes(out)}) {
			t.Fatal(out)
		}
	}
}

func TestEveryTick(t *testing.T) {
	for every := range 256 {
		for left := range every + 1 {
			for _, rung := range []bool{false, true} {
				checkStep(t, impl.Device{Every: every, Left: left, Rung: rung, In: []int{3}, Lost: 4}, impl.DevStep{Kind: impl.DvTick})
			}
		}
	}
}

func TestTickEdges(t *testing.T) {
	for _, k := range []struct {
		every, left int
		rung        bool
		wantLeft    int
		wantRung    bool
	}{
		{0, 0, false, 0, false}, {0, 0, true, 0, true}, {1, 0, false, 1, true}, {1, 1, false, 1, true}, {1, 1, true, 1, true},
		{2, 2, false, 1, false}, {2, 1, false, 2, true}, {2, 0, false, 2, true}, {255, 255, false, 254, false}, {255, 255, true, 254, true},
		{255, 2, false, 1, false}, {255, 1, false, 255, true}, {255, 0, false, 255, true}, {255, 0, true, 255, true},
	} {
		d, told, ok := impl.StepDevice(impl.Device{Every: k.every, Left: k.left, Rung: k.rung}, impl.DevStep{Kind: impl.DvTick})
		if !sameDevice(d, impl.Device{Every: k.every, Left: k.wantLeft, Rung: k.wantRung}) || told != 0 || !ok {
			t.Error(k, d, told, ok)
		}
	}
}

func TestTheTimerRingsEverySoOften(t *testing.T) {
	for _, every := range []int{0, 1, 2, 3, 8, 255} {
		d, _ := impl.PortWrite(impl.NewDevice(), 0, every)
		for tick := 1; tick <= 3*256; tick++ {
			d, _, _ = impl.StepDevice(d, impl.DevStep{Kind: impl.DvTick})
			if want := every > 0 && tick%max(every, 1) == 0; d.Rung != want {
				t.Fatalf("every %d: tick %d: %v", every, tick, d)
			}
			d, _, _ = impl.PortRead(d, 1)
		}
	}
}

func TestEveryStepAtTheEdges(t *testing.T) {
	steps := edgeSteps()
	for _, d := range edgeDevices() {
		for _, x := range steps {
			after := checkStep(t, d, x)
			if !impl.GoodDevice(after) {
				t.Fatal(d, x, after)
			}
		}
	}
}

func TestEveryByteComesAndIsWritten(t *testing.T) {
	d := impl.Device{Every: 9, Left: 4, Rung: true, In: []int{5}, Out: []int{6}, Lost: 7}
	for v := range 256 {
		checkStep(t, d, impl.DevStep{Kind: impl.DvCome, V: v})
		for _, port := range ports {
			checkStep(t, d, impl.DevStep{Kind: impl.DvWrite, K: port, V: v})
		}
		taken, told, ok := impl.PortRead(impl.Device{In: []int{v, 255 - v}}, 2)
		if told != v || !ok || !slices.Equal(taken.In, []int{255 - v}) {
			t.Fatal(v, taken, told, ok)
		}
		written, _ := impl.PortWrite(impl.NewDevice(), 0, v)
		if _, told, ok := impl.PortRead(written, 0); told != v || written.Left != v || !ok {
			t.Fatal(v, written, told, ok)
		}
	}
}

func TestWhatAPortThatIsReadTakesAndLeaves(t *testing.T) {
	d := impl.Device{Every: 20, Left: 3, Rung: true, In: []int{255, 0, 9}, Out: []int{4}, Lost: 2}
	for _, k := range []struct {
		port, told int
		after      impl.Device
	}{
		{0, 20, d},
		{1, 1, impl.Device{Every: 20, Left: 3, In: []int{255, 0, 9}, Out: []int{4}, Lost: 2}},
		{2, 255, impl.Device{Every: 20, Left: 3, Rung: true, In: []int{0, 9}, Out: []int{4}, Lost: 2}},
		{3, 3, d},
	} {
		if after, told, ok := impl.PortRead(d, k.port); told != k.told || !sameDevice(after, k.after) || !ok {
			t.Error(k.port, after, told, ok)
		}
	}
	quiet := impl.Device{Every: 20, Left: 3, Out: []int{4}, Lost: 2}
	for port, want := range []int{20, 0, 0, 0} {
		if after, told, ok := impl.PortRead(quiet, port); told != want || !sameDevice(after, quiet) || !ok {
			t.Error(port, after, told, ok)
		}
	}
}

func TestWhatAPortThatIsWrittenChanges(t *testing.T) {
	d := impl.Device{Every: 20, Left: 3, Rung: true, In: []int{255, 0, 9}, Out: []int{4}, Lost: 2}
	for _, k := range []struct {
		port, v int
		after   impl.Device
	}{
		{0, 0, impl.Device{Rung: true, In: []int{255, 0, 9}, Out: []int{4}, Lost: 2}},
		{0, 255, impl.Device{Every: 255, Left: 255, Rung: true, In: []int{255, 0, 9}, Out: []int{4}, Lost: 2}},
		{1, 0, impl.Device{Every: 20, Left: 3, In: []int{255, 0, 9}, Out: []int{4}, Lost: 2}},
		{1, 255, impl.Device{Every: 20, Left: 3, In: []int{255, 0, 9}, Out: []int{4}, Lost: 2}},
		{2, 0, impl.Device{Every: 20, Left: 3, Rung: true, In: []int{255, 0, 9}, Out: []int{4, 0}, Lost: 2}},
		{2, 255, impl.Device{Every: 20, Left: 3, Rung: true, In: []int{255, 0, 9}, Out: []int{4, 255}, Lost: 2}},
		{3, 0, impl.Device{Every: 20, Left: 3, Rung: true, Out: []int{4}, Lost: 2}},
		{3, 255, impl.Device{Every: 20, Left: 3, Rung: true, Out: []int{4}, Lost: 2}},
	} {
		if after, ok := impl.PortWrite(d, k.port, k.v); !sameDevice(after, k.after) || !ok {
			t.Error(k.port, k.v, after, ok)
		}
	}
}

func TestPortsAnswerAsStepsDo(t *testing.T) {
	for _, d := range edgeDevices() {
		for _, port := range ports {
			after, told, ok := impl.PortRead(d, port)
			stepped, toldThere, okThere := impl.StepDevice(d, impl.DevStep{Kind: impl.DvRead, K: port})
			if !ok || !okThere || told != toldThere || !sameDevice(after, stepped) {
				t.Fatal("read", d, port, after, told)
			}
			after, ok = impl.PortWrite(d, port, 200)
			stepped, toldThere, okThere = impl.StepDevice(d, impl.DevStep{Kind: impl.DvWrite, K: port, V: 200})
			if !ok || !okThere || toldThere != 0 || !sameDevice(after, stepped) {
				t.Fatal("written", d, port, after)
			}
		}
	}
}

func TestOutFillsAndStaysFull(t *testing.T) {
	d := impl.NewDevice()
	want := rowOfBytes(230)
	for i, v := range want {
		d, _ = impl.PortWrite(d, 2, v)
		if !slices.Equal(d.Out, want[:min(i+1, 200)]) || d.Lost != 0 || len(d.In) != 0 {
			t.Fatal(i, d)
		}
	}
}

func TestLostCountsUpToItsEnd(t *testing.T) {
	d := impl.Device{In: []int{1, 2, 3, 4}}
	for i := range 1005 {
		d, _, _ = impl.StepDevice(d, impl.DevStep{Kind: impl.DvCome, V: 9})
		if d.Lost != min(i+1, 1000) || !slices.Equal(d.In, []int{1, 2, 3, 4}) {
			t.Fatal(i, d)
		}
	}
}

func TestLevelOf(t *testing.T) {
	for _, d := range edgeDevices() {
		if level, ok := impl.LevelOf(d); level != wantedLevel(textOf(d)) || !ok {
			t.Fatal(d, level, ok)
		}
	}
	for _, k := range []struct {
		d    impl.Device
		want int
	}{
		{impl.Device{}, 0}, {impl.Device{Rung: true}, 5}, {impl.Device{In: []int{0}}, 2}, {impl.Device{Rung: true, In: []int{0}}, 5},
		{impl.Device{Out: []int{7}, Lost: 3}, 0}, {impl.NewDevice(), 0},
	} {
		if level, ok := impl.LevelOf(k.d); level != k.want || !ok {
			t.Error(k.d, level, ok)
		}
	}
}

// comesAndReads: a byte comes where the bit is 1, counted up, and is read where it is 0.
func comesAndReads(bits int, length int) []impl.DevStep {
	var l []impl.DevStep
	for i := range length {
		if bits>>i&1 == 1 {
			l = append(l, impl.DevStep{Kind: impl.DvCome, V: i + 1})
		} else {
			l = append(l, impl.DevStep{Kind: impl.DvRead, K: 2})
		}
	}
	return l
}

func TestALineGivesItsBytesInTheOrderInWhichTheyCame(t *testing.T) {
	const length = 13
	for bits := range 1 << length {
		steps := comesAndReads(bits, length)
		d, told, ok := impl.PlayDevice(steps)
		var came, given []int
		lost := 0
		for i, x := range steps {
			switch {
			case x.Kind == impl.DvRead && told[i] != 0:
				given = append(given, told[i])
			case x.Kind == impl.DvCome && len(came)-len(given) < 4:
				came = append(came, x.V)
			case x.Kind == impl.DvCome:
				lost++
			case len(given) != len(came):
				t.Fatal("a byte was not given", steps, told)
			}
		}
		if !ok || !slices.Equal(append(given, d.In...), came) || d.Lost != lost {
			t.Fatal(steps, d, told, ok)
		}
	}
}

func TestPlayDeviceOfSteps(t *testing.T) {
	d, told := checkPlay(t, nil)
	if !sameDevice(d, impl.NewDevice()) || len(told) != 0 {
		t.Error(d, told)
	}
	steps := edgeSteps()
	for _, length := range []int{1, 2, 3, 10, 79, 80} {
		for seed := range 400 {
			var l []impl.DevStep
			for i := range length {
				l = append(l, steps[(i*i*(seed+1)+i*(seed%13)+seed)%len(steps)])
			}
			checkPlay(t, l)
		}
	}
	checkPlay(t, slices.Repeat([]impl.DevStep{{Kind: impl.DvTick}}, 80))
	d, _ = checkPlay(t, slices.Repeat([]impl.DevStep{{Kind: impl.DvCome, V: 255}}, 80))
	if d.Lost != 76 || len(d.In) != 4 {
		t.Error(d)
	}
	d, _ = checkPlay(t, slices.Repeat([]impl.DevStep{{Kind: impl.DvWrite, K: 2, V: 255}}, 80))
	if len(d.Out) != 80 {
		t.Error(d)
	}
}

func TestPlayDeviceIsStepBehindStep(t *testing.T) {
	steps := edgeSteps()
	var l []impl.DevStep
	d := impl.NewDevice()
	var told []int
	for i := range 80 {
		x := steps[i*17%len(steps)]
		after, v, ok := impl.StepDevice(d, x)
		if !ok {
			t.Fatal(i, x)
		}
		l, d, told = append(l, x), after, append(told, v)
		played, toldThere, ok := impl.PlayDevice(l)
		if !ok || !sameDevice(played, d) || !slices.Equal(toldThere, told) {
			t.Fatal(i, played, toldThere, ok)
		}
	}
}

func wrongDevices() []impl.Device {
	var l []impl.Device
	for _, every := range []int{-1, -255, 256, 257, 1 << 32, math.MaxInt, math.MinInt} {
		l = append(l, impl.Device{Every: every}, impl.Device{Every: every, Left: every}, impl.Device{Every: every, Left: 3})
	}
	for _, time := range [][2]int{{0, 1}, {0, -1}, {1, 2}, {8, 9}, {8, -1}, {255, 256}, {255, -1}, {255, math.MaxInt}, {8, math.MinInt}, {0, 255}} {
		l = append(l, impl.Device{Every: time[0], Left: time[1]})
	}
	for _, in := range []int{5, 6, 200, 201} {
		l = append(l, impl.Device{Every: 8, Left: 8, In: rowOfBytes(in)})
	}
	for _, out := range []int{201, 202, 400} {
		l = append(l, impl.Device{Every: 8, Left: 8, Out: rowOfBytes(out)})
	}
	for _, v := range wrongBytes {
		for at := range 4 {
			in := rowOfBytes(4)
			in[at] = v
			l = append(l, impl.Device{Every: 8, Left: 8, In: in})
		}
		for _, at := range []int{0, 1, 100, 199} {
			out := rowOfBytes(200)
			out[at] = v
			l = append(l, impl.Device{Every: 8, Left: 8, Out: out})
		}
	}
	for _, lost := range []int{-1, -2, -1000, 1001, 1002, 1 << 32, math.MaxInt, math.MinInt} {
		l = append(l, impl.Device{Every: 8, Left: 8, Lost: lost}, impl.Device{Lost: lost, In: rowOfBytes(4)})
	}
	return l
}

func wrongDevSteps() []impl.DevStep {
	var l []impl.DevStep
	for _, kind := range wrongDevKinds {
		l = append(l, impl.DevStep{Kind: kind}, impl.DevStep{Kind: kind, K: 1, V: 1}, impl.DevStep{Kind: kind, K: 2})
	}
	for _, v := range notZero {
		l = append(l, impl.DevStep{Kind: impl.DvTick, K: v}, impl.DevStep{Kind: impl.DvTick, V: v}, impl.DevStep{Kind: impl.DvTick, K: v, V: v})
		l = append(l, impl.DevStep{Kind: impl.DvCome, K: v}, impl.DevStep{Kind: impl.DvCome, K: v, V: 1})
		for _, port := range ports {
			l = append(l, impl.DevStep{Kind: impl.DvRead, K: port, V: v})
		}
	}
	for _, v := range wrongBytes {
		l = append(l, impl.DevStep{Kind: impl.DvCome, V: v})
		for _, port := range ports {
			l = append(l, impl.DevStep{Kind: impl.DvWrite, K: port, V: v})
		}
	}
	for _, port := range wrongPorts {
		l = append(l, impl.DevStep{Kind: impl.DvRead, K: port}, impl.DevStep{Kind: impl.DvWrite, K: port}, impl.DevStep{Kind: impl.DvWrite, K: port, V: 255})
	}
	return l
}

func refusesStep(t *testing.T, d impl.Device, x impl.DevStep) {
	t.Helper()
	if after, told, ok := impl.StepDevice(d, x); !sameDevice(after, impl.Device{}) || told != 0 || ok {
		t.Fatalf("StepDevice(%v, %v) = %v, %d, %v", d, x, after, told, ok)
	}
}

func refusesPort(t *testing.T, d impl.Device, port int, v int) {
	t.Helper()
	if after, told, ok := impl.PortRead(d, port); v == 0 && (!sameDevice(after, impl.Device{}) || told != 0 || ok) {
		t.Fatalf("PortRead(%v, %d) = %v, %d, %v", d, port, after, told, ok)
	}
	if after, ok := impl.PortWrite(d, port, v); !sameDevice(after, impl.Device{}) || ok {
		t.Fatalf("PortWrite(%v, %d, %d) = %v, %v", d, port, v, after, ok)
	}
}

func refusesPlay(t *testing.T, l []impl.DevStep) {
	t.Helper()
	if d, told, ok := impl.PlayDevice(l); !sameDevice(d, impl.Device{}) || len(told) != 0 || ok {
		t.Fatalf("PlayDevice(%v) = %v, %v, %v", l, d, told, ok)
	}
}

func TestEveryFunctionRefusesWrongDevices(t *testing.T) {
	for _, d := range wrongDevices() {
		if impl.GoodDevice(d) {
			t.Fatal(d)
		}
		if level, ok := impl.LevelOf(d); level != 0 || ok {
			t.Fatal(d, level, ok)
		}
		for _, x := range edgeSteps() {
			refusesStep(t, d, x)
		}
		for _, port := range ports {
			refusesPort(t, d, port, 0)
			refusesPort(t, d, port, 255)
		}
	}
	rung := impl.Device{Rung: true, In: []int{256}}
	if level, ok := impl.LevelOf(rung); level != 0 || ok {
		t.Error(level, ok)
	}
}

func TestWrongStepsAreRefused(t *testing.T) {
	devices := []impl.Device{{}, impl.NewDevice(), {Every: 255, Left: 1, Rung: true, In: rowOfBytes(4), Out: rowOfBytes(200), Lost: 1000}}
	for _, x := range wrongDevSteps() {
		for _, d := range devices {
			refusesStep(t, d, x)
		}
		refusesPlay(t, []impl.DevStep{x})
		for _, at := range []int{0, 1, 40, 79} {
			l := slices.Repeat([]impl.DevStep{{Kind: impl.DvCome, V: 3}}, 80)
			l[at] = x
			refusesPlay(t, l)
		}
	}
}

func TestWrongPortsAndValuesAreRefused(t *testing.T) {
	d := impl.Device{Every: 9, Left: 4, Rung: true, In: []int{5}, Out: []int{6}, Lost: 7}
	for _, port := range wrongPorts {
		refusesPort(t, d, port, 0)
		refusesPort(t, d, port, 255)
	}
	for _, v := range wrongBytes {
		for _, port := range ports {
			refusesPort(t, d, port, v)
		}
	}
}

func TestMoreStepsThanThereMayBe(t *testing.T) {
	for _, length := range []int{81, 82, 200} {
		for _, x := range edgeSteps() {
			refusesPlay(t, slices.Repeat([]impl.DevStep{x}, length))
		}
	}
}

// roomyDevice has room behind both rows, filled with what no row has.
func roomyDevice(in int, out int) (impl.Device, []int, []int) {
	ins := append(rowOfBytes(in), slices.Repeat([]int{-7}, 20)...)
	outs := append(rowOfBytes(out), slices.Repeat([]int{-7}, 20)...)
	return impl.Device{Every: 9, Left: 1, Rung: true, In: ins[:in], Out: outs[:out], Lost: 7}, ins, outs
}

func TestDevicesWriteIntoNone(t *testing.T) {
	for _, lengths := range [][2]int{{0, 0}, {1, 1}, {3, 199}, {4, 200}} {
		d, ins, outs := roomyDevice(lengths[0], lengths[1])
		wantIns, wantOuts := slices.Clone(ins), slices.Clone(outs)
		for _, x := range edgeSteps() {
			checkStep(t, d, x)
		}
		for _, port := range ports {
			impl.PortRead(d, port)
			impl.PortWrite(d, port, 5)
		}
		impl.LevelOf(d)
		impl.GoodDevice(d)
		if !slices.Equal(ins, wantIns) || !slices.Equal(outs, wantOuts) {
			t.Fatal("an argument's memory was changed", lengths)
		}
	}
	steps := append(edgeSteps(), slices.Repeat([]impl.DevStep{{Kind: -7}}, 60)...)
	want := slices.Clone(steps)
	if _, _, ok := impl.PlayDevice(steps[:len(edgeSteps())]); !ok || !slices.Equal(steps, want) {
		t.Error("the steps' memory was changed", ok)
	}
}

// spoil fills a list and all the memory behind it.
func spoil(l []int) {
	l = l[:cap(l)]
	for i := range l {
		l[i] = -9
	}
}

func TestDevicesAnswerNewMemory(t *testing.T) {
	for _, x := range edgeSteps() {
		for _, lengths := range [][2]int{{1, 1}, {3, 199}, {4, 200}} {
			d, ins, outs := roomyDevice(lengths[0], lengths[1])
			want, _ := wantedStep(textOf(d), x)
			first, _, _ := impl.StepDevice(d, x)
			second, _, _ := impl.StepDevice(first, x)
			spoil(ins)
			spoil(outs)
			spoil(second.In)
			spoil(second.Out)
			if !sameDevice(first, want.device()) {
				t.Fatal("StepDevice's answer shares memory", x, lengths)
			}
			spoil(first.In)
			if !slices.Equal(first.Out, want.device().Out) {
				t.Fatal("two rows share memory", x, lengths)
			}
		}
	}
}

func TestPortsAnswerNewMemory(t *testing.T) {
	for _, port := range ports {
		d, ins, outs := roomyDevice(2, 3)
		wantRead, _ := wantedRead(textOf(d), port)
		wantWritten := wantedWrite(textOf(d), port, 8)
		read, _, _ := impl.PortRead(d, port)
		written, _ := impl.PortWrite(d, port, 8)
		spoil(ins)
		spoil(outs)
		if !sameDevice(read, wantRead.device()) || !sameDevice(written, wantWritten.device()) {
			t.Fatal("a port's answer shares memory", port)
		}
	}
}

func TestPlayDeviceAnswersNewMemory(t *testing.T) {
	steps := []impl.DevStep{{Kind: impl.DvCome, V: 5}, {Kind: impl.DvCome, V: 6}, {Kind: impl.DvWrite, K: 2, V: 7}, {Kind: impl.DvRead, K: 2}}
	d, told, _ := impl.PlayDevice(steps)
	again, toldAgain, _ := impl.PlayDevice(steps)
	spoil(again.In)
	spoil(again.Out)
	spoil(toldAgain)
	if !slices.Equal(d.In, []int{6}) || !slices.Equal(d.Out, []int{7}) || !slices.Equal(told, []int{0, 0, 0, 5}) {
		t.Fatal("two answers share memory", d, told)
	}
	spoil(d.In)
	spoil(d.Out)
	if !slices.Equal(told, []int{0, 0, 0, 5}) {
		t.Fatal("the answers share memory with a row", told)
	}
}
