package tests

import (
	"bytes"
	"math"
	"testing"

	"loop.example/g00134/impl"
)

// lowest has, by size, the bits that an access of the size holds.
var lowest = map[int64]uint64{1: 0xff, 2: 0xffff, 4: 0xffffffff, 8: 0xffffffffffffffff}

var sizes = []int64{1, 2, 4, 8}

var noSizes = []int64{
	0, 3, 5, 6, 7, 9, 10, 12, 16, 32, 64, -1, -2, -4, -8, 256 + 1, 1<<32 + 8,
	math.MaxInt64, math.MinInt64, math.MinInt64 + 8,
}

var someWords = []uint64{0, 1, 0x80, 0x8877665544332211, 0x1122334455667788, 0x7fffffffffffffff, 0x8000000000000000, math.MaxUint64}

// noMemories are lengths of lists of bytes that are no memory.
var noMemories = []int{0, 1, 8, 2048, 4095, 4097, 6144, 8191, 8193, 65535, 65537, 65536 + 4096, 2 * 65536}

// filled is a list of n bytes of which neighbours are unlike, and so are those 4096 apart.
func filled(n int) []byte {
	ram := make([]byte, n)
	for i := range ram {
		ram[i] = byte(i*7 + i/256*13 + i/4096*29 + 1)
	}
	return ram
}

// stored is what a store at a place of the list must leave.
func stored(ram []byte, at int, size int64, x uint64) []byte {
	want := bytes.Clone(ram)
	for range size {
		want[at] = byte(x % 256)
		x /= 256
		at++
	}
	return want
}

// loaded is what a load at a place of the list must tell.
func loaded(ram []byte, at int, size int64) uint64 {
	want := uint64(0)
	for k := at + int(size) - 1; k >= at; k-- {
		want = want*256 + uint64(ram[k])
	}
	return want
}

func wantNoLoad(t *testing.T, ram []byte, addr uint64, size int64) {
	t.Helper()
	if x, ok := impl.Load(ram, addr, size); x != 0 || ok {
		t.Errorf("Load of %d bytes at %#x in %d bytes: %d, %v; want 0, false", size, addr, len(ram), x, ok)
	}
}

func wantNoStore(t *testing.T, ram []byte, addr uint64, size int64) {
	t.Helper()
	before := bytes.Clone(ram)
	if out, ok := impl.Store(ram, addr, size, math.MaxUint64); len(out) != 0 || ok {
		t.Errorf("Store of %d bytes at %#x in %d bytes: %d bytes, %v; want nothing, false", size, addr, len(ram), len(out), ok)
	}
	if !bytes.Equal(ram, before) {
		t.Errorf("Store of %d bytes at %#x, refused, wrote into its argument", size, addr)
	}
}

func wantLoad(t *testing.T, ram []byte, addr uint64, size int64, want uint64) {
	t.Helper()
	if x, ok := impl.Load(ram, addr, size); x != want || !ok {
		t.Errorf("Load of %d bytes at %#x in %d bytes: %#x, %v; want %#x, true", size, addr, len(ram), x, ok, want)
	}
}

func TestMemoryLimits(t *testing.T) {
	if impl.MaxRam != 65536 || impl.RamBase != 2147483648 {
		t.Error(impl.MaxRam, impl.RamBase)
	}
}

func TestRamOk(t *testing.T) {
	if impl.RamOk(nil) {
		t.Error("nil is no memory")
	}
	most := make([]byte, 3*65536)
	right := 0
	for n := range len(most) + 1 {
		ok := impl.RamOk(most[:n])
		if want := n >= 4096 && n <= 65536 && n%4096 == 0; ok != want {
			t.Errorf("RamOk of %d bytes: %v", n, ok)
		}
		if ok {
			right++
		}
	}
	if right != 16 {
		t.Errorf("%d lengths are right, want 16", right)
	}
}

func TestLoadHasTheFirstByteLowest(t *testing.T) {
	ram := make([]byte, 8192)
	copy(ram[4093:], []byte{0x11, 0x22, 0x33, 0x44, 0x55, 0x66, 0x77, 0x88, 0x99})
	at := uint64(impl.RamBase + 4093)
	wantLoad(t, ram, at, 1, 0x11)
	wantLoad(t, ram, at, 2, 0x2211)
	wantLoad(t, ram, at, 4, 0x44332211)
	wantLoad(t, ram, at, 8, 0x8877665544332211)
	wantLoad(t, ram, at+1, 8, 0x9988776655443322)
	wantLoad(t, ram, at+8, 1, 0x99) // not widened
	wantLoad(t, ram, at+7, 2, 0x9988)
	wantLoad(t, ram, at-1, 2, 0x1100)
}

func TestLoadAtEveryPlace(t *testing.T) {
	for _, n := range []int{4096, 8192, 65536} {
		ram := filled(n)
		for _, size := range sizes {
			for at := 0; at <= n-int(size); at++ {
				wantLoad(t, ram, impl.RamBase+uint64(at), size, loaded(ram, at, size))
			}
		}
	}
}

// wantStored checks promise 1 at one place: every byte, and what is loaded there.
func wantStored(t *testing.T, ram []byte, at int, size int64, x uint64) {
	t.Helper()
	addr := impl.RamBase + uint64(at)
	out, ok := impl.Store(ram, addr, size, x)
	if !ok || !bytes.Equal(out, stored(ram, at, size, x)) {
		t.Fatalf("Store of %d bytes of %#x at byte %d of %d: %v, or a wrong byte", size, x, at, len(ram), ok)
	}
	wantLoad(t, out, addr, size, x&lowest[size])
}

func TestStoreAtEveryPlace(t *testing.T) {
	ram := filled(4096)
	for _, size := range sizes {
		for at := 0; at <= len(ram)-int(size); at++ {
			wantStored(t, ram, at, size, 0xf0e1d2c3b4a59687)
		}
	}
}

func TestStoreAndThenLoad(t *testing.T) {
	for _, n := range []int{4096, 8192, 61440, 65536} {
		ram := filled(n)
		for _, size := range sizes {
			last := n - int(size)
			for _, at := range []int{0, 1, 2, 3, 5, 7, 8, n/2 - 1, n / 2, n/2 + 3, n - 16, n - 9, last - 1, last} {
				for _, x := range someWords {
					wantStored(t, ram, at, size, x)
				}
			}
		}
	}
}

func TestLaterStoresLeaveEarlierOnes(t *testing.T) {
	ram := make([]byte, 4096)
	want := make([]byte, 4096)
	x := uint64(88172645463325252)
	for k := range 3000 {
		x = x*6364136223846793005 + 1442695040888963407
		size := sizes[k%4]
		at := int(x>>33) % (4097 - int(size))
		out, ok := impl.Store(ram, impl.RamBase+uint64(at), size, x)
		want = stored(want, at, size, x)
		if !ok || !bytes.Equal(out, want) {
			t.Fatalf("store %d, of %d bytes at %d: %v", k, size, at, ok)
		}
		ram = out
	}
}

func TestLastByteInsideAndOutside(t *testing.T) {
	for _, n := range []int{4096, 8192, 65536} {
		backing := filled(n + 4096)
		ram := backing[:n] // what lies behind it is not of the memory
		end := impl.RamBase + uint64(n)
		for _, size := range sizes {
			wantLoad(t, ram, end-uint64(size), size, loaded(ram, n-int(size), size))
			wantStored(t, ram, n-int(size), size, 0x0123456789abcdef)
			for past := range uint64(size) {
				wantNoLoad(t, ram, end-past, size)
				wantNoStore(t, ram, end-past, size)
			}
			wantNoLoad(t, ram, end+8, size)
			wantNoStore(t, ram, end+8, size)
		}
		if !bytes.Equal(backing, filled(n+4096)) {
			t.Error("bytes behind the memory were written")
		}
	}
}

func TestAddressesOutside(t *testing.T) {
	var addrs []uint64
	for k := range uint64(9) {
		addrs = append(addrs, k, impl.RamBase-1-k, math.MaxUint64-k, 1<<63-1-k, 1<<63+k)
	}
	addrs = append(addrs, 4096, 1<<32, 1<<32+impl.RamBase, 1<<33+impl.RamBase, 1<<63+impl.RamBase,
		impl.RamBase+65536, impl.RamBase+65537, impl.RamBase/2, 2*impl.RamBase, math.MaxUint64-impl.RamBase, math.MaxUint64-impl.RamBase+1)
	for _, n := range []int{4096, 65536} {
		ram := filled(n)
		for _, addr := range addrs {
			for _, size := range sizes {
				wantNoLoad(t, ram, addr, size)
				wantNoStore(t, ram, addr, size)
			}
		}
	}
}

func TestSizesThatAreNone(t *testing.T) {
	ram := filled(4096)
	for _, size := range noSizes {
		for _, addr := range []uint64{impl.RamBase, impl.RamBase + 2048, impl.RamBase + 4095, impl.RamBase + 4096, 0, math.MaxUint64} {
			wantNoLoad(t, ram, addr, size)
			wantNoStore(t, ram, addr, size)
		}
	}
}

func TestWhatIsNoMemory(t *testing.T) {
	lists := [][]byte{nil}
	for _, n := range noMemories {
		lists = append(lists, filled(n))
	}
	for _, ram := range lists {
		for _, size := range append(sizes, noSizes...) {
			for _, addr := range []uint64{impl.RamBase, impl.RamBase + 8, impl.RamBase - 1, math.MaxUint64} {
				wantNoLoad(t, ram, addr, size)
				wantNoStore(t, ram, addr, size)
			}
		}
		if h := impl.Digest(ram); h != 0 {
			t.Errorf("Digest of %d bytes: %d, want 0", len(ram), h)
		}
	}
}

func TestWidenOfNamedWords(t *testing.T) {
	rows := []struct {
		x    uint64
		n    int64
		want uint64
	}{
		{0, 1, 0}, {1, 1, math.MaxUint64}, {2, 1, 0}, {3, 1, math.MaxUint64},
		{0x7f, 8, 0x7f}, {0x80, 8, 0xffffffffffffff80}, {0xff80, 8, 0xffffffffffffff80}, {0xff7f, 8, 0x7f},
		{0x800, 12, 0xfffffffffffff800}, {0x7ff, 12, 0x7ff},
		{0x80000000, 32, 0xffffffff80000000}, {0xffffffff7fffffff, 32, 0x7fffffff},
		{0x4000000000000000, 63, 0xc000000000000000}, {0x8000000000000000, 63, 0},
		{0x8000000000000001, 64, 0x8000000000000001}, {math.MaxUint64, 64, math.MaxUint64}, {5, 64, 5},
	}
	for _, r := range rows {
		if got := impl.Widen(r.x, r.n); got != r.want {
			t.Errorf("Widen of %#x by %d: %#x, want %#x", r.x, r.n, got, r.want)
		}
	}
}

func TestWidenBitByBit(t *testing.T) {
	words := append([]uint64{0xaaaaaaaaaaaaaaaa, 0x5555555555555555, 0xf0e1d2c3b4a59687}, someWords...)
	for n := int64(1); n <= 64; n++ {
		for _, x := range words {
			got := impl.Widen(x, n)
			for bit := int64(0); bit < 64; bit++ {
				if want := x >> min(bit, n-1) & 1; got>>bit&1 != want {
					t.Fatalf("Widen of %#x by %d: %#x, bit %d is not %d", x, n, got, bit, want)
				}
			}
		}
	}
}

func TestWidenOfNoSuchCount(t *testing.T) {
	for _, n := range []int64{0, 65, 66, 128, 1<<32 + 8, -1, -8, -63, -64, math.MaxInt64, math.MinInt64} {
		for _, x := range someWords {
			if got := impl.Widen(x, n); got != 0 {
				t.Errorf("Widen of %#x by %d: %#x, want 0", x, n, got)
			}
		}
	}
}

func TestDigest(t *testing.T) {
	ones := bytes.Repeat([]byte{255}, 65536)
	first, last := make([]byte, 4096), make([]byte, 4096)
	first[0], last[4095] = 1, 1
	rows := []struct {
		name string
		ram  []byte
		want int64
	}{
		{"noughts, 4096 bytes", make([]byte, 4096), 558579490},
		{"noughts, 65536 bytes", make([]byte, 65536), 566245181},
		{"bytes 255, 65536 of them", ones, 958765328},
		{"a first byte 1", first, 274518587},
		{"a last byte 1", last, 558579491},
	}
	for _, r := range rows {
		if got := impl.Digest(r.ram); got != r.want {
			t.Errorf("Digest of %s: %d, want %d", r.name, got, r.want)
		}
	}
}

func TestDigestStepByStep(t *testing.T) {
	for n := 4096; n <= 65536; n += 4096 {
		ram := filled(n)
		want := int64(0)
		for _, b := range ram {
			want = (want*257 + int64(b) + 1) % 1000000007
		}
		if got := impl.Digest(ram); got != want {
			t.Errorf("Digest of %d bytes: %d, want %d", n, got, want)
		}
	}
}

func TestMemoryArgumentsStay(t *testing.T) {
	const n = 8192
	whole := filled(n + 8192)
	before := bytes.Clone(whole)
	ram := whole[4096 : 4096+n] // bytes ahead of it, and spare room behind it
	for _, size := range sizes {
		for _, at := range []int{0, 1, n / 2, n - 9, n - int(size), n, n + 1} {
			addr := impl.RamBase + uint64(at)
			impl.RamOk(ram)
			impl.Load(ram, addr, size)
			impl.Digest(ram)
			out, _ := impl.Store(ram, addr, size, 0x0f1e2d3c4b5a6978)
			if !bytes.Equal(whole, before) {
				t.Fatalf("an argument was written into, %d bytes at %d", size, at)
			}
			checkApart(t, whole, ram, out)
		}
	}
}

// checkApart fails where a write into one of both is seen in the other; it leaves whole as it was.
func checkApart(t *testing.T, whole, ram, out []byte) {
	t.Helper()
	before, answer := bytes.Clone(whole), bytes.Clone(out)
	for i := range ram {
		ram[i] ^= 0xff
	}
	if !bytes.Equal(out, answer) {
		t.Fatal("what is answered shares bytes with an argument")
	}
	copy(whole, before)
	room := out[:cap(out)]
	for i := range room {
		room[i] ^= 0xff
	}
	if !bytes.Equal(whole, before) {
		t.Fatal("what is answered, or its spare room, shares bytes with an argument")
	}
}

func TestStoreOfWhatIsThereIsNewMemory(t *testing.T) {
	ram := filled(4096)
	x, _ := impl.Load(ram, impl.RamBase+16, 8)
	out, ok := impl.Store(ram, impl.RamBase+16, 8, x)
	if !ok || !bytes.Equal(out, ram) {
		t.Fatal("a store of what is there changed the memory")
	}
	checkApart(t, ram, ram, out)
	again, _ := impl.Store(ram, impl.RamBase+16, 8, x)
	next, _ := impl.Store(ram, impl.RamBase+16, 8, x)
	checkApart(t, again, again, next)
}
