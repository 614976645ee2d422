package tests

import (
	"bytes"
	"fmt"
	"math"
	"runtime"
	"slices"
	"testing"

	"loop.example/g00134/impl"
)

const (
	softAddr  = uint64(33554432)
	cmpAddr   = uint64(33570816)
	timeAddr  = uint64(33603576)
	byteAddr  = uint64(268435456)
	ierAddr   = uint64(268435457)
	stateAddr = uint64(268435461)
)

var portAddrs = []uint64{softAddr, cmpAddr, timeAddr, byteAddr, ierAddr, stateAddr}

// portSizes has, by address, the one size by which it is reached.
var portSizes = map[uint64]int64{softAddr: 4, cmpAddr: 8, timeAddr: 8, byteAddr: 1, ierAddr: 1, stateAddr: 1}

var noIers = []int64{-1, -2, -256, -255, 2, 3, 4, 255, 256, 257, 1 << 32, 1<<32 + 1, 1 << 62, math.MinInt64, math.MinInt64 + 1, math.MaxInt64}

var storedWords = []uint64{0, 1, 2, 3, 254, 255, 256, 257, 0x141, 1 << 32, 1<<32 + 1, greatestSigned, leastSigned, leastSigned + 1, 0x8877665544332211, allOnes - 1, allOnes}

var ticks = []int64{0, 1, 2, 99, 100, 1<<32 - 1, 1 << 32, math.MaxInt64 - 1, math.MaxInt64}

// devsOf has a Dev of each of these lengths of In and Out, Soft and Ier; Time and Cmp are unlike from one to the next.
func devsOf(ins, outs []int) []impl.Dev {
	var all []impl.Dev
	words := append(slices.Clone(edgeNumbers), mixedNumbers(60)...)
	for _, in := range ins {
		for _, out := range outs {
			for n := range 4 {
				k := len(all)
				all = append(all, impl.Dev{
					Time: words[k*7%len(words)], Cmp: words[k*5%len(words)], Soft: n%2 == 1,
					In: filled(in + 40)[40:], Out: filled(out), Ier: int64(n / 2),
				})
			}
		}
	}
	return all
}

func smallDevs() []impl.Dev {
	return devsOf([]int{0, 1, 2, 15, 16}, []int{0, 1, 3})
}

func rightDevs() []impl.Dev {
	return append(smallDevs(), devsOf([]int{0, 1, 15, 16}, []int{4095, 4096})...)
}

// wrongDevs are not DevOk, each by one thing or by several.
func wrongDevs() []impl.Dev {
	all := devsOf([]int{17, 18, 32, 272, 4096}, []int{0, 1, 4096, 4097})
	all = append(all, devsOf([]int{0, 1, 16}, []int{4097, 4098, 4112, 8192})...)
	for _, ier := range noIers {
		for _, d := range smallDevs()[:24] {
			d.Ier = ier
			all = append(all, d)
		}
	}
	return all
}

func sameDev(a, b impl.Dev) bool {
	return a.Time == b.Time && a.Cmp == b.Cmp && a.Soft == b.Soft && a.Ier == b.Ier &&
		bytes.Equal(a.In, b.In) && bytes.Equal(a.Out, b.Out)
}

// roomy is the Dev with bytes ahead of In and Out and spare room behind them, and the lists that these are pieces of.
func roomy(d impl.Dev) (impl.Dev, []byte, []byte) {
	laid := func(list []byte) []byte { return slices.Concat(filled(5), list, filled(33)) }
	in, out := laid(d.In), laid(d.Out)
	d.In, d.Out = in[5:5+len(d.In)], out[5:5+len(d.Out)]
	return d, in, out
}

func turnAll(list []byte) {
	list = list[:cap(list)]
	for k := range list {
		list[k] ^= 0xff
	}
}

// wantDev holds what a call answers against what it must be. Promise 15: the argument and its spare room stay, and what is answered is new memory, each of its lists of its own.
func wantDev(t *testing.T, d, want impl.Dev, call func(d impl.Dev) impl.Dev) {
	t.Helper()
	given, in, out := roomy(d)
	inWas, outWas := bytes.Clone(in), bytes.Clone(out)
	got := call(given)
	if !sameDev(got, want) {
		t.Fatalf("of %s\nit is %s\nwant  %s", showDev(d), showDev(got), showDev(want))
	}
	if !bytes.Equal(in, inWas) || !bytes.Equal(out, outWas) {
		t.Fatalf("of %s: the argument was written into", showDev(d))
	}
	turnAll(got.In)
	if !bytes.Equal(got.Out, want.Out) || !bytes.Equal(in, inWas) || !bytes.Equal(out, outWas) {
		t.Fatalf("of %s: In of the answer shares memory", showDev(d))
	}
	turnAll(got.Out)
	if !bytes.Equal(in, inWas) || !bytes.Equal(out, outWas) {
		t.Fatalf("of %s: Out of the answer shares memory", showDev(d))
	}
}

func wantDevLoad(t *testing.T, d impl.Dev, addr uint64, size int64, x uint64, want impl.Dev) {
	t.Helper()
	wantDev(t, d, want, func(d impl.Dev) impl.Dev {
		got, out, ok := impl.DevLoad(d, addr, size)
		if got != x || !ok {
			t.Fatalf("DevLoad of %s at %d, %d bytes: %#x, %v; want %#x, true", showDev(d), addr, size, got, ok, x)
		}
		return out
	})
}

func wantDevStore(t *testing.T, d impl.Dev, addr uint64, size int64, x uint64, want impl.Dev) {
	t.Helper()
	wantDev(t, d, want, func(d impl.Dev) impl.Dev {
		out, ok := impl.DevStore(d, addr, size, x)
		if !ok {
			t.Fatalf("DevStore of %s at %d, %d bytes, %#x: false", showDev(d), addr, size, x)
		}
		return out
	})
}

// wantNoPort holds that neither a load nor a store is at an address, by that size.
func wantNoPort(t *testing.T, d impl.Dev, addr uint64, size int64) {
	t.Helper()
	wantDev(t, d, impl.Dev{}, func(d impl.Dev) impl.Dev {
		x, out, ok := impl.DevLoad(d, addr, size)
		if x != 0 || ok {
			t.Fatalf("DevLoad of %s at %d, %d bytes: %#x, %v; want 0, false", showDev(d), addr, size, x, ok)
		}
		return out
	})
	wantDev(t, d, impl.Dev{}, func(d impl.Dev) impl.Dev {
		out, ok := impl.DevStore(d, addr, size, allOnes)
		if ok {
			t.Fatalf("DevStore of %s at %d, %d bytes: true", showDev(d), addr, size)
		}
		return out
	})
}

func wantTick(t *testing.T, d impl.Dev, n int64, want impl.Dev) {
	t.Helper()
	wantDev(t, d, want, func(d impl.Dev) impl.Dev { return impl.Tick(d, n) })
}

func wantByte(t *testing.T, d impl.Dev, b byte, want impl.Dev) {
	t.Helper()
	wantDev(t, d, want, func(d impl.Dev) impl.Dev { return impl.Byte(d, b) })
}

func wantLines(t *testing.T, d impl.Dev, want uint64) {
	t.Helper()
	given, in, out := roomy(d)
	inWas, outWas := bytes.Clone(in), bytes.Clone(out)
	if got := impl.Lines(given); got != want {
		t.Fatalf("Lines of %s: %d, want %d", showDev(d), got, want)
	}
	if !bytes.Equal(in, inWas) || !bytes.Equal(out, outWas) {
		t.Fatalf("Lines of %s wrote into its argument", showDev(d))
	}
}

// linesOf is a second reading of Lines, for a Dev that is right.
func linesOf(d impl.Dev) uint64 {
	lines := uint64(0)
	if d.Soft {
		lines += 8
	}
	if !(d.Time < d.Cmp) {
		lines += 128
	}
	if d.Ier != 0 && len(d.In) != 0 {
		lines += 2048
	}
	return lines
}

// devLoaded is a second reading of DevLoad, for what is right.
func devLoaded(d impl.Dev, addr uint64) (uint64, impl.Dev) {
	some := min(1, len(d.In))
	switch addr {
	case softAddr:
		if d.Soft {
			return 1, d
		}
		return 0, d
	case cmpAddr:
		return d.Cmp, d
	case timeAddr:
		return d.Time, d
	case ierAddr:
		return uint64(d.Ier), d
	case stateAddr:
		return uint64(32 + some), d
	}
	if some == 0 {
		return 0, d
	}
	x := uint64(d.In[0])
	d.In = slices.Clone(d.In[1:])
	return x, d
}

// devStored is a second reading of DevStore, for what is right.
func devStored(d impl.Dev, addr uint64, x uint64) impl.Dev {
	switch addr {
	case softAddr:
		d.Soft = x%2 == 1
	case cmpAddr:
		d.Cmp = x
	case timeAddr:
		d.Time = x
	case ierAddr:
		d.Ier = int64(x % 2)
	case byteAddr:
		if len(d.Out) < 4096 {
			d.Out = slices.Concat(d.Out, []byte{byte(x % 256)})
		}
	}
	return d
}

// showDev is what a message tells of a Dev: of its lists the first bytes, as In may hold, and the length.
func showDev(d impl.Dev) string {
	return fmt.Sprintf("{Time %#x, Cmp %#x, Soft %v, In %d %v, Out %d %v, Ier %d}",
		d.Time, d.Cmp, d.Soft, len(d.In), d.In[:min(20, len(d.In))], len(d.Out), d.Out[:min(20, len(d.Out))], d.Ier)
}

func TestDeviceLimits(t *testing.T) {
	if impl.MaxIn != 16 || impl.MaxOut != 4096 {
		t.Error(impl.MaxIn, impl.MaxOut)
	}
}

func TestDevOk(t *testing.T) {
	if !impl.DevOk(impl.Dev{}) {
		t.Error("the zero Dev is none")
	}
	room := filled(70000)
	for n := range 300 {
		if got := impl.DevOk(impl.Dev{In: room[:n]}); got != (n <= 16) {
			t.Errorf("DevOk with In of %d: %v", n, got)
		}
	}
	for n := range len(room) {
		if got := impl.DevOk(impl.Dev{Out: room[:n]}); got != (n <= 4096) {
			t.Errorf("DevOk with Out of %d: %v", n, got)
		}
	}
	for ier := int64(-300); ier <= 300; ier++ {
		if got := impl.DevOk(impl.Dev{Ier: ier}); got != (ier == 0 || ier == 1) {
			t.Errorf("DevOk with Ier %d: %v", ier, got)
		}
	}
	for _, ier := range noIers {
		if impl.DevOk(impl.Dev{Ier: ier}) {
			t.Errorf("DevOk with Ier %d", ier)
		}
	}
}

func TestDevOkOfMany(t *testing.T) {
	for _, d := range rightDevs() {
		if !impl.DevOk(d) {
			t.Errorf("not DevOk: %s", showDev(d))
		}
	}
	for _, d := range wrongDevs() {
		if impl.DevOk(d) {
			t.Errorf("DevOk: %s", showDev(d))
		}
	}
}

// Each of the six addresses by its own size, from every kind of Dev.
func TestDevLoadOfMany(t *testing.T) {
	for _, d := range rightDevs() {
		for _, addr := range portAddrs {
			x, want := devLoaded(d, addr)
			wantDevLoad(t, d, addr, portSizes[addr], x, want)
		}
	}
}

func TestDevStoreOfMany(t *testing.T) {
	for _, d := range rightDevs() {
		for _, addr := range portAddrs {
			for _, x := range storedWords {
				wantDevStore(t, d, addr, portSizes[addr], x, devStored(d, addr, x))
			}
		}
	}
}

// The same by hand.
func TestDevLoadByHand(t *testing.T) {
	d := impl.Dev{Time: 0xfedcba9876543210, Cmp: 0x8123456789abcdef, In: []byte{200, 0, 7}, Out: []byte{1, 2}}
	soft, ier := d, d
	soft.Soft, ier.Ier = true, 1
	wantDevLoad(t, d, 33554432, 4, 0, d)
	wantDevLoad(t, soft, 33554432, 4, 1, soft)
	wantDevLoad(t, d, 33570816, 8, 0x8123456789abcdef, d)
	wantDevLoad(t, d, 33603576, 8, 0xfedcba9876543210, d)
	wantDevLoad(t, d, 268435457, 1, 0, d)
	wantDevLoad(t, ier, 268435457, 1, 1, ier)
	wantDevLoad(t, d, 268435461, 1, 33, d)
	wantDevLoad(t, d, 268435456, 1, 200, impl.Dev{Time: d.Time, Cmp: d.Cmp, In: []byte{0, 7}, Out: []byte{1, 2}})
	one := impl.Dev{In: []byte{255}, Out: []byte{9}}
	wantDevLoad(t, one, 268435461, 1, 33, one)
	wantDevLoad(t, one, 268435456, 1, 255, impl.Dev{Out: []byte{9}})
	nought := impl.Dev{In: []byte{0}}
	wantDevLoad(t, nought, 268435461, 1, 33, nought)
	wantDevLoad(t, nought, 268435456, 1, 0, impl.Dev{})
	none := impl.Dev{Soft: true, Out: []byte{9}, Ier: 1}
	wantDevLoad(t, none, 268435461, 1, 32, none)
	wantDevLoad(t, none, 268435456, 1, 0, none)
	wantDevLoad(t, impl.Dev{}, 268435456, 1, 0, impl.Dev{})
}

func TestDevStoreByHand(t *testing.T) {
	d := impl.Dev{Time: 5, Cmp: 6, In: []byte{7}, Out: []byte{8}}
	wantDevStore(t, d, 33554432, 4, 1, impl.Dev{Time: 5, Cmp: 6, Soft: true, In: []byte{7}, Out: []byte{8}})
	wantDevStore(t, d, 33554432, 4, 2, d)
	wantDevStore(t, impl.Dev{Soft: true}, 33554432, 4, 0xfffffffffffffffe, impl.Dev{})
	wantDevStore(t, impl.Dev{}, 33554432, 4, 0xffffffffffffffff, impl.Dev{Soft: true})
	wantDevStore(t, d, 33570816, 8, 0xffffffffffffffff, impl.Dev{Time: 5, Cmp: 0xffffffffffffffff, In: []byte{7}, Out: []byte{8}})
	wantDevStore(t, d, 33603576, 8, 0x8000000000000001, impl.Dev{Time: 0x8000000000000001, Cmp: 6, In: []byte{7}, Out: []byte{8}})
	wantDevStore(t, d, 268435456, 1, 0x141, impl.Dev{Time: 5, Cmp: 6, In: []byte{7}, Out: []byte{8, 0x41}})
	wantDevStore(t, d, 268435456, 1, 256, impl.Dev{Time: 5, Cmp: 6, In: []byte{7}, Out: []byte{8, 0}})
	wantDevStore(t, d, 268435457, 1, 3, impl.Dev{Time: 5, Cmp: 6, In: []byte{7}, Out: []byte{8}, Ier: 1})
	wantDevStore(t, impl.Dev{Ier: 1}, 268435457, 1, 256, impl.Dev{})
	wantDevStore(t, d, 268435461, 1, 0xff, d)
}

func TestStoreIntoAFullOut(t *testing.T) {
	for n := 4090; n <= 4096; n++ {
		d := impl.Dev{Time: 3, In: []byte{4}, Out: filled(n), Ier: 1}
		want := d
		if n < 4096 {
			want.Out = append(filled(n), 0x77)
		}
		wantDevStore(t, d, byteAddr, 1, 0x77, want)
	}
}

// strangeAddrs are those about the six, and others where nothing is.
func strangeAddrs() []uint64 {
	all := []uint64{0, 1, 2, 4, 8, impl.RamBase, impl.RamBase - 1, impl.RamBase + 65536, 1 << 24, 1 << 26, 1 << 27, 1 << 29, allOnes - 7, allOnes - 1, allOnes}
	for _, addr := range portAddrs {
		for k := range uint64(17) {
			all = append(all, addr-k, addr+k)
		}
		for n := range 64 {
			all = append(all, addr^1<<n)
		}
		all = append(all, -addr, addr*2, addr/2, addr+1<<32, addr+impl.RamBase)
	}
	return all
}

func TestAddressesWithoutADevice(t *testing.T) {
	for _, d := range smallDevs() {
		for _, addr := range strangeAddrs() {
			if _, is := portSizes[addr]; is {
				continue
			}
			for _, size := range sizes {
				if _, out, ok := impl.DevLoad(d, addr, size); ok || !sameDev(out, impl.Dev{}) {
					t.Fatalf("DevLoad at %d, %d bytes", addr, size)
				}
				if out, ok := impl.DevStore(d, addr, size, allOnes); ok || !sameDev(out, impl.Dev{}) {
					t.Fatalf("DevStore at %d, %d bytes", addr, size)
				}
			}
		}
	}
	for _, d := range devsOf([]int{0, 1, 16}, []int{2, 4096}) {
		for _, addr := range append([]uint64{0, allOnes}, strangeAddrs()[:40]...) {
			if _, is := portSizes[addr]; !is {
				for _, size := range append(slices.Clone(noSizes), sizes...) {
					wantNoPort(t, d, addr, size)
				}
			}
		}
	}
}

func TestOtherSizes(t *testing.T) {
	all := append(slices.Clone(noSizes), sizes...)
	for _, addr := range portAddrs {
		own := portSizes[addr]
		all = append(all, own+256, own+1<<32, own+math.MinInt64, own-256, -own)
	}
	for _, d := range smallDevs() {
		for _, addr := range portAddrs {
			for _, size := range all {
				if size != portSizes[addr] {
					wantNoPort(t, d, addr, size)
				}
			}
		}
	}
}

func TestWrongDevs(t *testing.T) {
	for _, d := range wrongDevs() {
		for _, addr := range portAddrs {
			wantNoPort(t, d, addr, portSizes[addr])
		}
		wantNoPort(t, d, 0, 1)
		wantNoPort(t, d, byteAddr, 3)
		wantLines(t, d, 0)
		for _, n := range []int64{0, 1, math.MaxInt64, -1, math.MinInt64} {
			wantTick(t, d, n, impl.Dev{})
		}
		for _, b := range []byte{0, 1, 255} {
			wantByte(t, d, b, impl.Dev{})
		}
	}
}

func TestLinesOfMany(t *testing.T) {
	for _, d := range rightDevs() {
		wantLines(t, d, linesOf(d))
	}
}

// Each of Soft, Ier, In and the clock by itself and with each other.
func TestLinesByHand(t *testing.T) {
	for n := range uint64(16) {
		d, want := impl.Dev{Time: 6, Cmp: 7}, uint64(0)
		if bit(n, 0) == 1 {
			d.Soft, want = true, want+8
		}
		if bit(n, 1) == 1 {
			d.Cmp, want = 6, want+128
		}
		if bit(n, 2) == 1 {
			d.Ier = 1
		}
		if bit(n, 3) == 1 {
			d.In = []byte{0}
		}
		if n >= 12 {
			want += 2048
		}
		wantLines(t, d, want)
		d.Out = filled(4096)
		wantLines(t, d, want)
	}
	wantLines(t, impl.Dev{}, 128)
	for n := 1; n <= 16; n++ {
		wantLines(t, impl.Dev{Cmp: 1, In: filled(n), Ier: 1}, 2048)
		wantLines(t, impl.Dev{Cmp: 1, In: filled(n)}, 0)
	}
}

// Time one below Cmp, the same and one above, as words.
func TestTheClockRings(t *testing.T) {
	for _, x := range []struct {
		time, cmp uint64
		rings     bool
	}{
		{0, 0, true}, {1, 0, true}, {allOnes, 0, true}, {leastSigned, 0, true},
		{allOnes, allOnes, true}, {allOnes - 1, allOnes, false}, {0, allOnes, false}, {greatestSigned, allOnes, false},
		{greatestSigned, leastSigned, false}, {leastSigned, leastSigned, true}, {leastSigned + 1, leastSigned, true},
		{leastSigned, greatestSigned, true}, {greatestSigned, greatestSigned, true}, {greatestSigned - 1, greatestSigned, false},
		{0, leastSigned, false}, {leastSigned, 1, true}, {1, leastSigned + 1, false}, {leastSigned, leastSigned + 1, false},
		{99, 100, false}, {100, 100, true}, {101, 100, true}, {1<<32 - 1, 1 << 32, false}, {1 << 32, 1<<32 - 1, true},
	} {
		want := uint64(0)
		if x.rings {
			want = 128
		}
		wantLines(t, impl.Dev{Time: x.time, Cmp: x.cmp}, want)
		wantLines(t, impl.Dev{Time: x.time, Cmp: x.cmp, Soft: true, In: []byte{1}, Ier: 1}, want+8+2048)
	}
	eachPair(func(a, b uint64) {
		d := impl.Dev{Time: a, Cmp: b}
		wantLines(t, d, linesOf(d))
	})
}

func TestTickOfMany(t *testing.T) {
	for _, d := range rightDevs() {
		for _, n := range ticks {
			want := d
			want.Time += uint64(n)
			wantTick(t, d, n, want)
		}
		for _, n := range []int64{-1, -2, -100, -1 << 32, -math.MaxInt64, math.MinInt64} {
			wantTick(t, d, n, impl.Dev{})
		}
	}
}

func TestTickByHand(t *testing.T) {
	d := impl.Dev{Time: allOnes, Cmp: 4, Soft: true, In: []byte{5}, Out: []byte{6}, Ier: 1}
	after := func(time uint64) impl.Dev {
		return impl.Dev{Time: time, Cmp: 4, Soft: true, In: []byte{5}, Out: []byte{6}, Ier: 1}
	}
	wantTick(t, d, 0, after(0xffffffffffffffff))
	wantTick(t, d, 1, after(0))
	wantTick(t, d, 2, after(1))
	wantTick(t, d, math.MaxInt64, after(0x7ffffffffffffffe))
	wantTick(t, after(0), math.MaxInt64, after(0x7fffffffffffffff))
	wantTick(t, after(0x7fffffffffffffff), 1, after(0x8000000000000000))
	wantTick(t, after(0x8000000000000001), math.MaxInt64, after(0))
	wantTick(t, impl.Dev{}, 0, impl.Dev{})
	wantTick(t, after(9), -1, impl.Dev{})
	wantTick(t, after(9), math.MinInt64, impl.Dev{})
}

// Promise 8: time goes on. A Tick by n and then by m is one by n + m.
func TestTicksAddUp(t *testing.T) {
	d := dice(0x243f6a8885a308d3)
	for _, dev := range smallDevs() {
		for _, n := range ticks {
			for _, m := range ticks {
				if n <= math.MaxInt64-m {
					wantTick(t, impl.Tick(dev, n), m, impl.Tick(dev, n+m))
				}
			}
		}
		for range 50 {
			n := int64(d.below(1 << (1 + d.below(52))))
			m := int64(d.below(1 << (1 + d.below(52))))
			wantTick(t, impl.Tick(dev, n), m, impl.Tick(dev, n+m))
			if n+m > 0 && impl.Tick(dev, n+m).Time-dev.Time != uint64(n+m) {
				t.Fatalf("Tick of %s by %d and %d", showDev(dev), n, m)
			}
		}
	}
}

func TestByteOfMany(t *testing.T) {
	for _, d := range rightDevs() {
		for _, b := range []byte{0, 1, 10, 65, 127, 128, 255} {
			want := d
			if len(d.In) < 16 {
				want.In = slices.Concat(d.In, []byte{b})
			}
			wantByte(t, d, b, want)
		}
	}
}

// Each byte comes into an In that is empty, has room for one, and is full.
func TestEveryByteComes(t *testing.T) {
	for n := range 256 {
		b := byte(n)
		wantByte(t, impl.Dev{}, b, impl.Dev{In: []byte{b}})
		wantByte(t, impl.Dev{Time: 7, In: filled(15)}, b, impl.Dev{Time: 7, In: append(filled(15), b)})
		wantByte(t, impl.Dev{Time: 7, In: filled(16)}, b, impl.Dev{Time: 7, In: filled(16)})
		wantDevLoad(t, impl.Byte(impl.Dev{}, b), byteAddr, 1, uint64(b), impl.Dev{})
		wantDevStore(t, impl.Dev{}, byteAddr, 1, uint64(b), impl.Dev{Out: []byte{b}})
	}
}

// Promise 8: bytes come out as they went in, one a load, and then 0; those that find In full are lost.
func TestBytesAreLoadedInTheirOrder(t *testing.T) {
	for n := range 20 {
		for _, first := range []byte{0, 1, 77, 250} {
			d := impl.Dev{Cmp: 9, Out: []byte{3}}
			for k := range n {
				d = impl.Byte(d, first+byte(k*13))
			}
			for k := range min(n, 16) {
				x, next, ok := impl.DevLoad(d, byteAddr, 1)
				if !ok || x != uint64(first+byte(k*13)) || len(next.In) != min(n, 16)-1-k {
					t.Fatalf("byte %d of %d: %d, %v", k, n, x, ok)
				}
				d = next
			}
			for range 3 {
				wantDevLoad(t, d, byteAddr, 1, 0, impl.Dev{Cmp: 9, Out: []byte{3}})
				_, d, _ = impl.DevLoad(d, byteAddr, 1)
			}
		}
	}
}

// Promise 8: bytes that are stored lie behind Out in their order; those that find it full are lost.
func TestBytesAreStoredInTheirOrder(t *testing.T) {
	sent := filled(4100)
	for _, was := range []int{0, 1, 4000} {
		d := impl.Dev{In: []byte{1, 2}, Out: bytes.Repeat([]byte{9}, was)}
		want := slices.Concat(d.Out, sent)[:4096]
		for k, b := range sent {
			next, ok := impl.DevStore(d, byteAddr, 1, uint64(b)+uint64(k)<<8)
			if n := min(4096, was+k+1); !ok || !bytes.Equal(next.Out, want[:n]) || !bytes.Equal(next.In, d.In) {
				t.Fatalf("byte %d behind %d: %v, Out has %d", k, was, ok, len(next.Out))
			}
			d = next
		}
	}
}

// doneBoth does one thing at random to a Dev, by the program and by the second readings.
func doneBoth(t *testing.T, d *dice, dev impl.Dev) (impl.Dev, impl.Dev) {
	want := dev
	switch d.below(6) {
	case 0, 1:
		b := byte(d.below(256))
		if len(want.In) < 16 {
			want.In = slices.Concat(want.In, []byte{b})
		}
		return impl.Byte(dev, b), want
	case 2:
		n := int64(d.below(1 << (1 + d.below(52))))
		want.Time += uint64(n)
		return impl.Tick(dev, n), want
	case 3:
		addr, x := portAddrs[d.below(6)], d.below(1<<53)<<d.below(12)
		out, ok := impl.DevStore(dev, addr, portSizes[addr], x)
		if !ok {
			t.Fatalf("DevStore of %s at %d", showDev(dev), addr)
		}
		return out, devStored(want, addr, x)
	}
	addr := portAddrs[d.below(6)]
	if d.below(2) == 0 {
		addr = byteAddr
	}
	x, out, ok := impl.DevLoad(dev, addr, portSizes[addr])
	is, want := devLoaded(want, addr)
	if !ok || x != is {
		t.Fatalf("DevLoad of %s at %d: %d, %v; want %d", showDev(dev), addr, x, ok, is)
	}
	return out, want
}

// Promise 8, through all that can happen, in any order: at each moment the devices and their lines are as they must be.
func TestMixedDevices(t *testing.T) {
	d, seen := dice(0x452821e638d01377), map[uint64]int{}
	empty, full := 0, 0
	for range 40 {
		dev := impl.Dev{Cmp: d.below(1 << 52)}
		for range 400 {
			next, want := doneBoth(t, &d, dev)
			if !sameDev(next, want) || !impl.DevOk(next) {
				t.Fatalf("of %s\nit is %s\nwant  %s", showDev(dev), showDev(next), showDev(want))
			}
			wantLines(t, next, linesOf(want))
			seen[linesOf(want)]++
			if len(next.In) == 0 {
				empty++
			}
			if len(next.In) == 16 {
				full++
			}
			dev = next
		}
	}
	if len(seen) != 8 || empty < 100 || full < 100 {
		t.Errorf("lines %v; In was empty %d times, full %d times", seen, empty, full)
	}
}

// Promise 15: In and Out of an argument may be pieces of one list, side by side or one upon the other.
func TestListsThatShareARoom(t *testing.T) {
	for _, x := range [][4]int{{0, 3, 3, 9}, {3, 9, 0, 3}, {0, 8, 0, 8}, {0, 8, 4, 20}, {4, 20, 0, 8}, {0, 0, 0, 5}, {0, 5, 0, 0}, {2, 2, 2, 2}, {0, 16, 8, 40}} {
		room := filled(64)
		before := bytes.Clone(room)
		d := impl.Dev{In: room[x[0]:x[1]], Out: room[x[2]:x[3]]}
		wantByte := impl.Dev{In: slices.Concat(d.In, []byte{99}), Out: bytes.Clone(d.Out)}
		if len(d.In) == 16 {
			wantByte.In = bytes.Clone(d.In)
		}
		answers := []impl.Dev{impl.Byte(d, 99), impl.Tick(d, 5)}
		wants := []impl.Dev{wantByte, {Time: 5, In: bytes.Clone(d.In), Out: bytes.Clone(d.Out)}}
		for _, addr := range portAddrs {
			_, out, _ := impl.DevLoad(d, addr, portSizes[addr])
			_, want := devLoaded(d, addr)
			answers, wants = append(answers, out), append(wants, want)
			out, _ = impl.DevStore(d, addr, portSizes[addr], 255)
			answers, wants = append(answers, out), append(wants, devStored(d, addr, 255))
		}
		for k, got := range answers {
			if !sameDev(got, wants[k]) {
				t.Fatalf("answer %d of %v: %s, want %s", k, x, showDev(got), showDev(wants[k]))
			}
			out := bytes.Clone(got.Out)
			turnAll(got.In)
			if !bytes.Equal(got.Out, out) {
				t.Fatalf("answer %d of %v: its In and Out share memory", k, x)
			}
			turnAll(got.Out)
			if !bytes.Equal(room, before) {
				t.Fatalf("answer %d of %v shares memory with its argument", k, x)
			}
		}
	}
}

// Promise 15: no argument makes one of them panic, and no call leaves a goroutine behind.
func TestDevicesAnswerAtEveryArgument(t *testing.T) {
	all := slices.Concat(rightDevs(), wrongDevs())
	numbers := append(slices.Clone(noSizes), 0, 1, 2, 4, 8, math.MinInt64, math.MaxInt64)
	addrs := append(strangeAddrs(), edgeNumbers...)
	before := runtime.NumGoroutine()
	for k := range 20000 {
		d, n := all[k*7%len(all)], numbers[k*5%len(numbers)]
		addr, x := addrs[k*3%len(addrs)], edgeNumbers[k%len(edgeNumbers)]
		impl.DevLoad(d, addr, n)
		impl.DevStore(d, addr, n, x)
		impl.Lines(impl.Tick(d, n))
		impl.DevOk(impl.Byte(d, byte(k)))
		if after := runtime.NumGoroutine(); after != before {
			t.Fatalf("%d goroutines ahead of the calls, %d behind them", before, after)
		}
	}
	for _, d := range all {
		for _, addr := range portAddrs {
			impl.DevLoad(d, addr, portSizes[addr])
			impl.DevStore(d, addr, portSizes[addr], 1)
		}
		if after := runtime.NumGoroutine(); after != before {
			t.Fatalf("%d goroutines ahead of the calls, %d behind them", before, after)
		}
	}
}
