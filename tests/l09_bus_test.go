package tests

import (
	"bytes"
	"fmt"
	"math"
	"runtime"
	"slices"
	"testing"

	"loop.example/g00134/impl"
)

var crookedFaults = map[int64]int64{impl.KdFetch: 16, impl.KdLoad: 20, impl.KdStore: 22}

// sizesOf are those by which a kind of access may be.
func sizesOf(kind int64) []int64 {
	if kind == impl.KdFetch {
		return []int64{4}
	}
	return sizes
}

// machineOf is a right machine with these parts, and marks in the others.
func machineOf(ram []byte, list []uint64, priv int64, d impl.Dev) impl.Machine {
	m := impl.Machine{Pc: 0x123456789abcdef0, X: make([]uint64, 32), Priv: priv, Csrs: slices.Clone(list), Ram: ram, Dev: d, Wait: priv != 0}
	for k := range m.X {
		m.X[k] = uint64(k) * 0x9e3779b97f4a7c15
	}
	m.Csrs[9] = m.Csrs[9]&^0x888 | linesOf(d)
	return m
}

// plain are registers that go by no table, with an entry that lets all be.
func plain() []uint64 {
	return withWord(open(0), 15, 0x0123456789abcdef)
}

// quiet are devices that tell nothing.
var quiet = impl.Dev{Time: 6, Cmp: 7}

func sameMachine(a, b impl.Machine) bool {
	return a.Pc == b.Pc && slices.Equal(a.X, b.X) && a.Priv == b.Priv && slices.Equal(a.Csrs, b.Csrs) && bytes.Equal(a.Ram, b.Ram) &&
		sameDev(a.Dev, b.Dev) && a.Hold == b.Hold && a.Held == b.Held && a.Wait == b.Wait
}

func showMachine(m impl.Machine) string {
	sum := uint64(0)
	for _, b := range m.Ram {
		sum = sum*257 + uint64(b)
	}
	return fmt.Sprintf("{Pc %#x, X %#x, Priv %d, Csrs %#x, Ram %d %#x, Dev %s, Hold %#x, Held %v, Wait %v}",
		m.Pc, m.X, m.Priv, m.Csrs, len(m.Ram), sum, showDev(m.Dev), m.Hold, m.Held, m.Wait)
}

// rooms are the lists that those of a machine are pieces of.
type rooms struct {
	x, csrs      []uint64
	ram, in, out []byte
}

// spacious is the machine with something ahead of each of its lists and spare room behind them.
func spacious(m impl.Machine) (impl.Machine, rooms) {
	words := func(list []uint64) []uint64 { return slices.Concat([]uint64{7, 8, 9}, list, []uint64{1, 2, 3, 4, 5}) }
	r := rooms{x: words(m.X), csrs: words(m.Csrs), ram: slices.Concat(filled(5), m.Ram, filled(33))}
	m.X, m.Csrs, m.Ram = r.x[3:3+len(m.X)], r.csrs[3:3+len(m.Csrs)], r.ram[5:5+len(m.Ram)]
	m.Dev, r.in, r.out = roomy(m.Dev)
	return m, r
}

func (r rooms) copied() rooms {
	return rooms{slices.Clone(r.x), slices.Clone(r.csrs), bytes.Clone(r.ram), bytes.Clone(r.in), bytes.Clone(r.out)}
}

func (r rooms) same(other rooms) bool {
	return slices.Equal(r.x, other.x) && slices.Equal(r.csrs, other.csrs) &&
		bytes.Equal(r.ram, other.ram) && bytes.Equal(r.in, other.in) && bytes.Equal(r.out, other.out)
}

func turnWords(list []uint64) {
	list = list[:cap(list)]
	for k := range list {
		list[k] = ^list[k]
	}
}

// checkNew turns one list of an answer after the other. Promise 15: neither the argument nor the lists that are still as they were change by it.
func checkNew(t *testing.T, got, want impl.Machine, all, was rooms) {
	t.Helper()
	turnWords(got.X)
	if !slices.Equal(got.Csrs, want.Csrs) || !bytes.Equal(got.Ram, want.Ram) || !sameDev(got.Dev, want.Dev) || !all.same(was) {
		t.Fatal("X of the answer shares memory")
	}
	turnWords(got.Csrs)
	if !bytes.Equal(got.Ram, want.Ram) || !sameDev(got.Dev, want.Dev) || !all.same(was) {
		t.Fatal("Csrs of the answer share memory")
	}
	turnAll(got.Ram)
	if !sameDev(got.Dev, want.Dev) || !all.same(was) {
		t.Fatal("Ram of the answer shares memory")
	}
	turnAll(got.In)
	if !bytes.Equal(got.Out, want.Out) || !all.same(was) {
		t.Fatal("In of the answer shares memory")
	}
	turnAll(got.Out)
	if !all.same(was) {
		t.Fatal("Out of the answer shares memory")
	}
}

// wantMachine holds what a call answers against what it must be. Promise 15: the argument and its spare room stay, and what is answered is new memory, each of its lists of its own.
func wantMachine(t *testing.T, m, want impl.Machine, call func(m impl.Machine) impl.Machine) {
	t.Helper()
	given, all := spacious(m)
	was := all.copied()
	got := call(given)
	if !sameMachine(got, want) {
		t.Fatalf("of %s\nit is %s\nwant  %s", showMachine(m), showMachine(got), showMachine(want))
	}
	if !all.same(was) {
		t.Fatalf("of %s: the argument was written into", showMachine(m))
	}
	checkNew(t, got, want, all, was)
}

func wantOk(t *testing.T, m impl.Machine, want bool) {
	t.Helper()
	given, all := spacious(m)
	was := all.copied()
	if got := impl.MachineOk(given); got != want {
		t.Fatalf("MachineOk of %s: %v", showMachine(m), got)
	}
	if !all.same(was) {
		t.Fatal("MachineOk wrote into its argument")
	}
}

// told is what an access tells.
type told struct {
	x    uint64
	m    impl.Machine
	code int64
}

// privFor is a second reading of the privilege that counts.
func privFor(m impl.Machine, kind int64) int64 {
	if kind != impl.KdFetch && bit(m.Csrs[0], 17) == 1 {
		return int64(m.Csrs[0] / 2048 % 4)
	}
	return m.Priv
}

// storedBy is the machine behind a store that goes through, and whether there is something to store into.
func storedBy(m impl.Machine, to uint64, size int64, x uint64) (impl.Machine, bool) {
	own, port := portSizes[to]
	switch {
	case to >= impl.RamBase && to-impl.RamBase < uint64(len(m.Ram)):
		m.Ram = stored(m.Ram, int(to-impl.RamBase), size, x)
	case port && own == size:
		m.Dev = devStored(m.Dev, to, x)
		m.Csrs = withWord(m.Csrs, 9, m.Csrs[9]&^0x888|linesOf(m.Dev))
	default:
		return m, false
	}
	for at := to; at != to+uint64(size); at++ {
		if m.Held && at >= m.Hold-m.Hold%8 && at <= m.Hold-m.Hold%8+7 {
			m.Held, m.Hold = false, 0
		}
	}
	return m, true
}

// loadedBy is what a load tells that goes through, the machine behind it, and whether something is there.
func loadedBy(m impl.Machine, to uint64, size int64, kind int64) (uint64, impl.Machine, bool) {
	own, port := portSizes[to]
	switch {
	case to >= impl.RamBase && to-impl.RamBase < uint64(len(m.Ram)):
		return loaded(m.Ram, int(to-impl.RamBase), size), m, true
	case port && own == size && kind == impl.KdLoad:
		x, d := devLoaded(m.Dev, to)
		m.Dev, m.Csrs = d, withWord(m.Csrs, 9, m.Csrs[9]&^0x888|linesOf(d))
		return x, m, true
	}
	return 0, m, false
}

// way tells where an access leads, as led does.
type way func(ram []byte, list []uint64, priv int64, addr uint64, kind int64) path

// reached is a second reading of Access, for arguments that are right.
func reached(m impl.Machine, addr uint64, size, kind int64, x uint64) told {
	return reachedBy(led, m, addr, size, kind, x)
}

func reachedBy(lead way, m impl.Machine, addr uint64, size, kind int64, x uint64) told {
	if addr%uint64(size) != 0 {
		return told{0, m, crookedFaults[kind]}
	}
	priv := privFor(m, kind)
	p := lead(m.Ram, m.Csrs, priv, addr, kind)
	m.Ram = p.ram
	if p.code != 0 {
		return told{0, m, p.code + 16}
	}
	if may(m.Csrs, priv, p.to, size, kind) {
		if kind == impl.KdStore {
			if out, ok := storedBy(m, p.to, size, x); ok {
				return told{0, out, 0}
			}
		} else if x, out, ok := loadedBy(m, p.to, size, kind); ok {
			return told{x, out, 0}
		}
	}
	return told{0, m, accessFaults[kind] + 16}
}

// checkKept is promise 9 without the second reading: of registers mip's lines alone may change, of memory the bytes from at on and the marks of one entry.
func checkKept(t *testing.T, was, is impl.Machine, at uint64, size int64) {
	t.Helper()
	if is.Pc != was.Pc || is.Priv != was.Priv || is.Wait != was.Wait || !slices.Equal(is.X, was.X) {
		t.Fatalf("an access has changed Pc, Priv, Wait or X: %s\nwas %s", showMachine(is), showMachine(was))
	}
	if !slices.Equal(withWord(is.Csrs, 9, is.Csrs[9]&^0x888), withWord(was.Csrs, 9, was.Csrs[9]&^0x888)) {
		t.Fatalf("an access has changed Csrs: %#x, was %#x", is.Csrs, was.Csrs)
	}
	if !impl.MachineOk(is) {
		t.Fatalf("behind an access the machine is not right: %s", showMachine(is))
	}
	out, entries := bytes.Clone(is.Ram), 0
	if k := at - impl.RamBase; size > 0 && k < uint64(len(out)) {
		copy(out[k:k+uint64(size)], was.Ram[k:])
	}
	for k := 0; k < len(out); k += 8 {
		if bytes.Equal(out[k:k+8], was.Ram[k:k+8]) {
			continue
		}
		// Where the entry itself is stored into, its mark may be seen in part.
		old, entry := loaded(was.Ram, k, 8), loaded(out, k, 8)
		if entries++; entries > 1 || (old^entry)&^0xc0 != 0 || old&^entry != 0 {
			t.Fatalf("an access has changed the bytes from %#x on: %#x, were %#x", k, entry, old)
		}
	}
}

func wantTold(t *testing.T, m impl.Machine, addr uint64, size, kind int64, x uint64, want told) {
	t.Helper()
	wantMachine(t, m, want.m, func(given impl.Machine) impl.Machine {
		got, out, code := impl.Access(given, addr, size, kind, x)
		if got != want.x || code != want.code {
			t.Fatalf("Access of %s\nat %#x, %d bytes, kind %d, %#x: %#x, %d; want %#x, %d", showMachine(m), addr, size, kind, x, got, code, want.x, want.code)
		}
		if code != 99 {
			p := led(m.Ram, m.Csrs, privFor(m, kind), addr, kind)
			if code != 0 || kind != impl.KdStore {
				size = 0
			}
			checkKept(t, m, out, p.to, size)
		}
		return out
	})
}

func wantAccess(t *testing.T, m impl.Machine, addr uint64, size, kind int64, x uint64) told {
	t.Helper()
	want := reached(m, addr, size, kind, x)
	wantTold(t, m, addr, size, kind, x, want)
	return want
}

// wantRefused is an access with this code that changes nothing.
func wantRefused(t *testing.T, m impl.Machine, addr uint64, size, kind int64, code int64) {
	t.Helper()
	wantTold(t, m, addr, size, kind, allOnes, told{0, m, code})
}

func wantNoAccess(t *testing.T, m impl.Machine, addr uint64, size, kind int64, x uint64) {
	t.Helper()
	wantTold(t, m, addr, size, kind, x, told{0, impl.Machine{}, 99})
}

func wantLined(t *testing.T, m, want impl.Machine) {
	t.Helper()
	wantMachine(t, m, want, impl.Lined)
}

// ringing are devices that tell all that there is.
var ringing = impl.Dev{Time: 7, Cmp: 7, Soft: true, In: []byte{65, 66}, Out: []byte{3}, Ier: 1}

// rightMachines are of many kinds.
func rightMachines(t *testing.T) []impl.Machine {
	t.Helper()
	var out []impl.Machine
	devs := smallDevs()
	for k, list := range rightLists(t) {
		m := machineOf(filled(4096*(1+k%3)), list, privs[k%3], devs[k*11%len(devs)])
		m.Pc = evenPcs[k%len(evenPcs)]
		m.Held = k%2 == 1
		if m.Held {
			m.Hold = edgeNumbers[k%len(edgeNumbers)]
		}
		out = append(out, m)
	}
	for _, d := range rightDevs() {
		out = append(out, machineOf(filled(4096), plain(), 1, d))
	}
	made, _ := impl.NewMachine(make([]byte, 4096))
	return append(out, made)
}

// brokenLists are machines whose X, Csrs, Ram or Dev is wrong, and nothing else.
func brokenLists(t *testing.T, base impl.Machine) []impl.Machine {
	t.Helper()
	var out []impl.Machine
	with := func(change func(m *impl.Machine)) {
		m := base
		change(&m)
		out = append(out, m)
	}
	for _, n := range []int{0, 1, 16, 30, 31, 33, 34, 63, 64, 256 + 32} {
		with(func(m *impl.Machine) { m.X = make([]uint64, n) })
	}
	for _, x := range append([]uint64{1, 1 << 32, 1 << 63, allOnes}, someWords[1:]...) {
		with(func(m *impl.Machine) { m.X = withWord(base.X, 0, x) })
	}
	for _, list := range wrongLists(t) {
		with(func(m *impl.Machine) { m.Csrs = list })
	}
	for _, n := range noMemories {
		with(func(m *impl.Machine) { m.Ram = filled(n) })
	}
	with(func(m *impl.Machine) { m.X = nil })
	with(func(m *impl.Machine) { m.Csrs = nil })
	with(func(m *impl.Machine) { m.Ram = nil })
	for _, d := range wrongDevs() {
		// Whatever mip says: what such devices would tell, or nothing.
		with(func(m *impl.Machine) { m.Dev, m.Csrs = d, withWord(base.Csrs, 9, 0x222|linesOf(d)) })
		with(func(m *impl.Machine) { m.Dev, m.Csrs = d, withWord(base.Csrs, 9, 0x222) })
	}
	return out
}

// broken are machines of which one thing is wrong, but never mip's lines alone.
func broken(t *testing.T) []impl.Machine {
	t.Helper()
	base := machineOf(filled(4096), fullCsrs(), 3, ringing)
	out := brokenLists(t, base)
	with := func(change func(m *impl.Machine)) {
		m := base
		change(&m)
		out = append(out, m)
	}
	for _, pc := range evenPcs {
		for k := range uint64(3) {
			with(func(m *impl.Machine) { m.Pc = pc + 1 + k })
		}
	}
	for _, priv := range noPrivs {
		with(func(m *impl.Machine) { m.Priv = priv })
	}
	for _, hold := range []uint64{1, 2, 4, 7, 8, impl.RamBase, impl.RamBase + 8, 1 << 32, 1 << 63, allOnes} {
		with(func(m *impl.Machine) { m.Hold = hold })
	}
	return append(out, impl.Machine{})
}

// crossed are right machines but for mip's lines: each alone, two and all of them are other than the devices tell.
func crossed(t *testing.T) []impl.Machine {
	t.Helper()
	var out []impl.Machine
	for _, m := range rightMachines(t) {
		for n := range uint64(7) {
			turned := (n+1)&1<<3 | (n+1)>>1&1<<7 | (n+1)>>2<<11
			wrong := m
			wrong.Csrs = withWord(m.Csrs, 9, m.Csrs[9]^turned)
			out = append(out, wrong)
		}
	}
	return out
}

func TestMachineOk(t *testing.T) {
	for _, m := range rightMachines(t) {
		wantOk(t, m, true)
		for _, pc := range evenPcs {
			m.Pc = pc
			wantOk(t, m, true)
			for k := range uint64(3) {
				m.Pc = pc + k + 1
				wantOk(t, m, false)
			}
		}
		m.Pc = 0
		m.Held = true
		for _, hold := range edgeNumbers {
			m.Hold = hold
			wantOk(t, m, true)
		}
		m.Held = false
		for _, hold := range edgeNumbers {
			m.Hold = hold
			wantOk(t, m, hold == 0)
		}
		m.Hold = 0
		for _, priv := range []int64{0, 1, 3} {
			m.Priv = priv
			wantOk(t, m, true)
		}
		for _, priv := range noPrivs {
			m.Priv = priv
			wantOk(t, m, false)
		}
	}
}

func TestMachinesThatAreNotRight(t *testing.T) {
	wantOk(t, machineOf(filled(4096), fullCsrs(), 3, ringing), true)
	for _, m := range broken(t) {
		wantOk(t, m, false)
	}
	for _, m := range crossed(t) {
		wantOk(t, m, false)
	}
}

// Each word of X but the first may be anything.
func TestWordsOfX(t *testing.T) {
	m := machineOf(filled(4096), plain(), 0, quiet)
	for k := range 32 {
		for _, x := range edgeNumbers {
			m.X = withWord(make([]uint64, 32), k, x)
			wantOk(t, m, k > 0 || x == 0)
		}
	}
}

// Which of mip's bits are the devices', with each of them telling 0 and 1.
func TestLinesAreToldInMip(t *testing.T) {
	for n := range uint64(8) {
		d, lines := impl.Dev{Time: 6, Cmp: 7, Ier: 1}, uint64(0)
		if bit(n, 0) == 1 {
			d.Soft, lines = true, lines+8
		}
		if bit(n, 1) == 1 {
			d.Time, lines = 7, lines+128
		}
		if bit(n, 2) == 1 {
			d.In, lines = []byte{0}, lines+2048
		}
		for mip := range uint64(4096) {
			if mip&^0xaaa != 0 {
				continue
			}
			m := machineOf(filled(4096), plain(), 1, d)
			m.Csrs[9] = mip
			wantOk(t, m, mip&0x888 == lines)
			want := m
			want.Csrs = withWord(m.Csrs, 9, mip&0x222+lines)
			wantLined(t, m, want)
		}
	}
}

func TestNewMachine(t *testing.T) {
	for _, n := range []int{4096, 8192, 3 * 4096, 65536} {
		ram := filled(n)
		want := impl.Machine{Pc: 2147483648, X: make([]uint64, 32), Priv: 3, Csrs: make([]uint64, 22), Ram: bytes.Clone(ram)}
		want.Csrs[9] = 128
		whole := append(bytes.Clone(ram), filled(99)...)
		m, ok := impl.NewMachine(whole[:n])
		if !ok || !sameMachine(m, want) || !impl.MachineOk(m) {
			t.Fatalf("NewMachine of %d: %s, %v", n, showMachine(m), ok)
		}
		before := bytes.Clone(whole)
		turnAll(whole)
		if !bytes.Equal(m.Ram, ram) {
			t.Fatalf("NewMachine of %d keeps its argument", n)
		}
		turnAll(whole)
		checkNew(t, m, want, rooms{ram: whole}, rooms{ram: before})
		again, _ := impl.NewMachine(whole[:n])
		if !sameMachine(again, want) {
			t.Fatalf("NewMachine of %d, again: %s", n, showMachine(again))
		}
	}
	for _, n := range append([]int{4095, 4097, 8191, 8193, 65535, 65537}, noMemories...) {
		ram := filled(n)
		if m, ok := impl.NewMachine(ram); ok || !sameMachine(m, impl.Machine{}) || !bytes.Equal(ram, filled(n)) {
			t.Errorf("NewMachine of %d: %s, %v", n, showMachine(m), ok)
		}
	}
	if m, ok := impl.NewMachine(nil); ok || !sameMachine(m, impl.Machine{}) {
		t.Errorf("NewMachine of nil: %s, %v", showMachine(m), ok)
	}
}

// Each kind with each size at the first and the last place of memories of each length, and about them.
func TestAccessOfMemory(t *testing.T) {
	for _, pages := range []int{1, 2, 16} {
		n := uint64(pages * 4096)
		ram := filled(int(n))
		for _, priv := range privs {
			m := machineOf(ram, plain(), priv, quiet)
			for _, kind := range kinds {
				for _, size := range sizesOf(kind) {
					s := uint64(size)
					for _, at := range []uint64{0, s, 2 * s, 8, 4096 - s, n / 2, n - 2*s, n - s} {
						want := told{loaded(ram, int(at), size), m, 0}
						if kind == impl.KdStore {
							want.x, want.m.Ram = 0, stored(ram, int(at), size, 0x8877665544332211)
						}
						wantTold(t, m, impl.RamBase+at, size, kind, 0x8877665544332211, want)
					}
					for _, addr := range []uint64{0, s, impl.RamBase - 4096, impl.RamBase - s, impl.RamBase + n, impl.RamBase + n + s, impl.RamBase + 65536, 1 << 32, impl.RamBase + 1<<32, 1<<56 - s, 1 << 56, 1 << 63, -s} {
						wantRefused(t, m, addr, size, kind, accessFaults[kind]+16)
					}
				}
			}
		}
	}
}

func TestAccessByHand(t *testing.T) {
	m, _ := impl.NewMachine([]byte(fmt.Sprintf("%4096s", "abcdefgh")))
	last := uint64(impl.RamBase + 4088)
	for _, x := range []struct {
		addr       uint64
		size, kind int64
		word       uint64
		code       int64
	}{
		{last, 8, impl.KdLoad, 0x6867666564636261, 0},
		{last, 4, impl.KdLoad, 0x64636261, 0},
		{last, 4, impl.KdFetch, 0x64636261, 0},
		{last + 4, 4, impl.KdFetch, 0x68676665, 0},
		{last + 6, 2, impl.KdLoad, 0x6867, 0},
		{last + 7, 1, impl.KdLoad, 0x68, 0},
		{last + 8, 1, impl.KdLoad, 0, 21},
		{last + 8, 4, impl.KdFetch, 0, 17},
		{last + 8, 8, impl.KdStore, 0, 23},
		{last + 1, 2, impl.KdLoad, 0, 20},
		{last + 2, 4, impl.KdFetch, 0, 16},
		{last + 4, 8, impl.KdStore, 0, 22},
		{last + 9, 2, impl.KdLoad, 0, 20},
		{0x10000000, 4, impl.KdFetch, 0, 17},
		{0x10000005, 1, impl.KdLoad, 32, 0},
		{0x200bff8, 8, impl.KdLoad, 0, 0},
		{0x200bff8, 4, impl.KdLoad, 0, 21},
		{0, 1, impl.KdLoad, 0, 21},
		{allOnes, 1, impl.KdStore, 0, 23},
	} {
		wantTold(t, m, x.addr, x.size, x.kind, 5, told{x.word, m, x.code})
	}
	user := m
	user.Priv = 0
	for _, kind := range kinds {
		wantRefused(t, user, last, 4, kind, map[int64]int64{1: 17, 2: 21, 3: 23}[kind])
	}
}

// What is stored is the low bytes of x, by each size.
func TestStoresOfX(t *testing.T) {
	for _, priv := range privs {
		m := machineOf(filled(4096), plain(), priv, quiet)
		for _, size := range sizes {
			for _, x := range append([]uint64{0, 255, 256, allOnes}, edgeNumbers...) {
				for at := 0; at < 32; at += int(size) {
					want := m
					want.Ram = stored(m.Ram, at, size, x)
					wantTold(t, m, impl.RamBase+uint64(at), size, impl.KdStore, x, told{0, want, 0})
					wantTold(t, want, impl.RamBase+uint64(at), size, impl.KdLoad, 77, told{x & lowest[size], want, 0})
				}
			}
		}
	}
}

// A load and a fetch take no notice of x.
func TestLoadsOfX(t *testing.T) {
	m := machineOf(filled(4096), plain(), 1, ringing)
	for _, x := range edgeNumbers {
		for _, kind := range []int64{impl.KdFetch, impl.KdLoad} {
			wantTold(t, m, impl.RamBase+64, 4, kind, x, told{loaded(m.Ram, 64, 4), m, 0})
		}
		wantTold(t, m, softAddr, 4, impl.KdLoad, x, told{1, m, 0})
	}
}

// What is no multiple of the size is told ahead of all else: nothing is walked, nothing marked.
func TestCrookedAddresses(t *testing.T) {
	ram, _ := tabled(midAddr, 0, (ramFrame+2)*1024+0x1f)
	bases := []uint64{impl.RamBase, impl.RamBase + 4080, impl.RamBase + 4*4096, midAddr, midAddr + 1<<39, softAddr, cmpAddr, timeAddr, byteAddr, 0, 1 << 63, allOnes - 15}
	for _, list := range [][]uint64{open(0), plain(), withWord(plain(), 16, 0), open(0x20000), open(0x20800)} {
		for _, priv := range privs {
			m := machineOf(ram, list, priv, ringing)
			m.Held, m.Hold = true, impl.RamBase
			for _, base := range bases {
				for k := range uint64(16) {
					for _, kind := range kinds {
						for _, size := range sizesOf(kind) {
							if (base+k)%uint64(size) != 0 {
								wantRefused(t, m, base+k, size, kind, crookedFaults[kind])
							}
						}
					}
				}
			}
		}
	}
}

func TestAccessRefusesSizesAndKinds(t *testing.T) {
	ram, _ := tabled(midAddr, 0, (ramFrame+2)*1024+0x1f)
	addrs := []uint64{0, impl.RamBase, impl.RamBase + 1, midAddr, softAddr, byteAddr, allOnes}
	for _, m := range []impl.Machine{machineOf(ram, open(0), 0, ringing), machineOf(ram, plain(), 3, quiet)} {
		for _, addr := range addrs {
			for _, kind := range kinds {
				for _, size := range noSizes {
					wantNoAccess(t, m, addr, size, kind, 1)
				}
			}
			for _, kind := range noKinds {
				for _, size := range append([]int64{0, 3, 16, -1}, sizes...) {
					wantNoAccess(t, m, addr, size, kind, 1)
				}
			}
			for _, size := range []int64{1, 2, 8} {
				wantNoAccess(t, m, addr, size, impl.KdFetch, 1)
			}
		}
	}
}

func TestAccessRefusesMachines(t *testing.T) {
	for k, m := range slices.Concat(broken(t), crossed(t)) {
		for _, kind := range kinds {
			wantNoAccess(t, m, impl.RamBase+8, 4, kind, 1)
			wantNoAccess(t, m, impl.RamBase+9, 4, kind, 1)
		}
		port := portAddrs[k%6]
		wantNoAccess(t, m, port, portSizes[port], impl.KdLoad, 1)
		wantNoAccess(t, m, port, portSizes[port], impl.KdStore, 1)
		wantNoAccess(t, m, port, noSizes[k%len(noSizes)], noKinds[k%len(noKinds)], 1)
	}
}

// Each device by its own size and by others, for each kind, from every kind of devices.
func TestAccessOfDevices(t *testing.T) {
	for k, d := range rightDevs() {
		m := machineOf(filled(4096), plain(), privs[k%3], d)
		for _, addr := range portAddrs {
			for _, size := range sizes {
				if addr%uint64(size) != 0 {
					wantRefused(t, m, addr, size, impl.KdLoad, 20)
					wantRefused(t, m, addr, size, impl.KdStore, 22)
				} else if size != portSizes[addr] {
					wantRefused(t, m, addr, size, impl.KdLoad, 21)
					wantRefused(t, m, addr, size, impl.KdStore, 23)
				}
			}
			if addr%4 == 0 {
				wantRefused(t, m, addr, 4, impl.KdFetch, 17)
			} else {
				wantRefused(t, m, addr, 4, impl.KdFetch, 16)
			}
			if got := wantAccess(t, m, addr, portSizes[addr], impl.KdLoad, 3); got.code != 0 {
				t.Fatalf("a load at %d: code %d", addr, got.code)
			}
			for _, x := range storedWords {
				if got := wantAccess(t, m, addr, portSizes[addr], impl.KdStore, x); got.code != 0 {
					t.Fatalf("a store at %d: code %d", addr, got.code)
				}
			}
		}
	}
}

func TestAddressesBesideDevices(t *testing.T) {
	m := machineOf(filled(4096), plain(), 3, ringing)
	for _, addr := range strangeAddrs() {
		_, port := portSizes[addr]
		if port || addr >= impl.RamBase && addr < impl.RamBase+4096 {
			continue
		}
		for _, kind := range kinds {
			for _, size := range sizesOf(kind) {
				if addr%uint64(size) == 0 {
					wantRefused(t, m, addr, size, kind, accessFaults[kind]+16)
				}
			}
		}
	}
}

// A byte of In goes by a load, and with the last one the line is told no more.
func TestABytesLineIsToldInMip(t *testing.T) {
	for _, clock := range []uint64{0, 128} {
		d := impl.Dev{Time: 6, Cmp: 7 - clock/128, In: []byte{65, 0, 67}, Out: []byte{9}, Ier: 1}
		m := machineOf(filled(4096), withWord(plain(), 9, 0x202), 3, d)
		for k, b := range []byte{65, 0, 67, 0, 0} {
			if got, want := m.Csrs[9], 0x202+clock+map[bool]uint64{true: 2048}[k < 3]; got != want {
				t.Fatalf("ahead of byte %d mip is %#x, want %#x", k, got, want)
			}
			want := m
			want.In = bytes.Clone(m.In[min(1, len(m.In)):])
			want.Csrs = withWord(m.Csrs, 9, 0x202+clock+map[bool]uint64{true: 2048}[k < 2])
			wantTold(t, m, byteAddr, 1, impl.KdLoad, 5, told{uint64(b), want, 0})
			_, m, _ = impl.Access(m, byteAddr, 1, impl.KdLoad, 5)
		}
	}
}

// Stores that turn a line on and off, and others that turn none.
func TestStoresTurnLines(t *testing.T) {
	m := machineOf(filled(4096), plain(), 3, impl.Dev{Time: 100, Cmp: 200, In: []byte{1}})
	for _, x := range []struct {
		addr uint64
		x    uint64
		mip  uint64
	}{
		{stateAddr, 255, 0}, {softAddr, 1, 8}, {softAddr, 2, 0}, {softAddr, 3, 8}, {cmpAddr, 100, 136}, {cmpAddr, 101, 8},
		{timeAddr, 101, 136}, {timeAddr, 100, 8}, {ierAddr, 1, 2056}, {timeAddr, allOnes, 2184}, {ierAddr, 2, 136}, {softAddr, 0, 128},
		{byteAddr, 77, 128}, {cmpAddr, allOnes, 128}, {timeAddr, allOnes - 1, 0}, {timeAddr, 0, 0}, {cmpAddr, 0, 128}, {impl.RamBase, 8, 128},
	} {
		size := max(portSizes[x.addr], 1)
		want := wantAccess(t, m, x.addr, size, impl.KdStore, x.x)
		if want.code != 0 || want.m.Csrs[9] != x.mip {
			t.Fatalf("a store of %d at %d: code %d, mip %d", x.x, x.addr, want.code, want.m.Csrs[9])
		}
		_, m, _ = impl.Access(m, x.addr, size, impl.KdStore, x.x)
	}
	if !bytes.Equal(m.Out, []byte{77}) {
		t.Error(m.Out)
	}
}

// A full Out loses what is stored, a full In is loaded from.
func TestFullDevices(t *testing.T) {
	for n := 4094; n <= 4096; n++ {
		d := impl.Dev{In: filled(16), Out: filled(n), Ier: 1}
		m := machineOf(filled(4096), plain(), 0, d)
		want := m
		want.Out = append(filled(n), 0x41)[:min(n+1, 4096)]
		wantTold(t, m, byteAddr, 1, impl.KdStore, 0x141, told{0, want, 0})
		want = m
		want.In = filled(16)[1:]
		wantTold(t, m, byteAddr, 1, impl.KdLoad, 0, told{uint64(filled(1)[0]), want, 0})
	}
}

// statusFor is a mstatus by which loads and stores count as at priv, whatever the machine's own is.
func statusFor(priv int64) uint64 {
	return 1<<17 + uint64(priv)<<11
}

// Walk's codes, and 16 more, at the privilege that counts; a fetch counts as at the machine's own.
func TestCodesOfWalks(t *testing.T) {
	for _, x := range []struct {
		leaf  uint64
		priv  int64
		codes map[int64]int64
	}{
		{0x00, 0, pageFaults}, {0x00, 1, pageFaults}, {0x0f, 0, pageFaults}, {0x1f, 1, pageFaults},
		{0x01, 0, pageFaults}, {0x05, 1, pageFaults}, {0x1f + 1<<54, 0, pageFaults}, {0x4f + 1<<63, 1, pageFaults},
	} {
		ram, _ := tabled(midAddr, 0, (ramFrame+2)*1024+x.leaf)
		for _, kind := range kinds {
			m := machineOf(ram, open(0), x.priv, quiet)
			wantRefused(t, m, midAddr, 4, kind, x.codes[kind]+16)
			m = machineOf(ram, open(statusFor(x.priv)), 3, quiet)
			if kind == impl.KdFetch {
				wantRefused(t, m, midAddr, 4, kind, 17)
			} else {
				wantRefused(t, m, midAddr, 4, kind, x.codes[kind]+16)
			}
			m = machineOf(ram, open(statusFor(3)), x.priv, quiet)
			if kind == impl.KdFetch {
				wantRefused(t, m, midAddr, 4, kind, x.codes[kind]+16)
			} else {
				wantRefused(t, m, midAddr, 4, kind, accessFaults[kind]+16)
			}
		}
	}
}

// The same for entries that may not be loaded, tables that are nowhere, marks that may not be made, and addresses that are not widened.
func TestCodesOfWalksThatFindNoEntry(t *testing.T) {
	ram, at := tabled(midAddr, 0, (ramFrame+2)*1024+0x1f)
	for _, kind := range kinds {
		for _, size := range sizesOf(kind) {
			for _, list := range [][]uint64{
				withWord(open(0), 15, 8<<60), withWord(open(0), 15, 8<<60+ramFrame+4), shutAt(0, at, 0x00), shutAt(0, at, 0x01), shutAt(0, at, 0x81),
				shutAt(0, entriesAt(midAddr)[0], 0x04), shutAt(0, entriesAt(midAddr)[1], 0x80), withWord(open(0), 16, 0),
			} {
				wantRefused(t, machineOf(ram, list, 0, quiet), midAddr, size, kind, map[int64]int64{1: 17, 2: 21, 3: 23}[kind])
			}
			for n := 38; n < 64; n++ {
				wantRefused(t, machineOf(ram, open(0), 0, quiet), midAddr^1<<n, size, kind, map[int64]int64{1: 28, 2: 29, 3: 31}[kind])
			}
		}
	}
}

// behindMark is the low byte of a leaf behind a walk that leads.
var behindMark = map[int64]uint64{impl.KdFetch: 0x40, impl.KdLoad: 0x40, impl.KdStore: 0xc0}

// An entry that is marked: where the access goes through, where it may not be, and where nothing is there.
func TestWhatIsMarkedStays(t *testing.T) {
	page := midAddr - midAddr%4096
	for _, x := range []struct {
		priv int64
		user uint64
		own  int64
	}{{0, 0x10, 0}, {1, 0, 1}, {0, 0x10, 3}, {1, 0, 3}, {0, 0x10, 1}, {1, 0, 0}} {
		status := uint64(0)
		if x.priv != x.own {
			status = statusFor(x.priv)
		}
		for _, kind := range kinds {
			if kind == impl.KdFetch && x.priv != x.own {
				continue
			}
			leaf := 0x0f + x.user
			marked := func(frame uint64) (impl.Machine, impl.Machine) {
				ram, at := tabled(midAddr, 0, frame*1024+leaf)
				m := machineOf(ram, open(status), x.own, ringing)
				out := m
				out.Ram = stored(ram, at, 8, frame*1024+leaf+behindMark[kind])
				return m, out
			}
			for _, size := range sizesOf(kind) {
				m, out := marked(ramFrame + 2)
				want := told{loaded(m.Ram, 0x2678, size), out, 0}
				if kind == impl.KdStore {
					want.x, want.m.Ram = 0, stored(out.Ram, 0x2678, size, 0x1122334455667788)
				}
				wantTold(t, m, midAddr, size, kind, 0x1122334455667788, want)
				for _, b := range []uint64{0x00, 0x80} {
					m.Csrs = withWord(shutAt(status, 0x2678, b), 9, m.Csrs[9])
					out.Csrs = m.Csrs
					wantTold(t, m, midAddr, size, kind, 5, told{0, out, accessFaults[kind] + 16})
				}
				for _, frame := range []uint64{0, 1, ramFrame - 1, ramFrame + 4, softAddr/4096 + 1, 1<<44 - 1} {
					m, out := marked(frame)
					wantTold(t, m, page, size, kind, 5, told{0, out, accessFaults[kind] + 16})
				}
				for _, port := range portAddrs {
					m, out := marked(port / 4096)
					if size != portSizes[port] || kind == impl.KdFetch {
						addr := page + port%4096
						if addr%uint64(size) == 0 {
							wantTold(t, m, addr, size, kind, 5, told{0, out, accessFaults[kind] + 16})
						} else {
							wantRefused(t, m, addr, size, kind, crookedFaults[kind])
						}
					}
				}
			}
		}
	}
}

// Devices that a table leads to are reached as without one; the entry is marked, too.
func TestDevicesThatATableLeadsTo(t *testing.T) {
	for _, d := range smallDevs() {
		for _, port := range portAddrs {
			addr := midAddr - midAddr%4096 + port%4096
			ram, at := tabled(addr, 0, port/4096*1024+0x1f)
			for _, kind := range []int64{impl.KdLoad, impl.KdStore} {
				m := machineOf(ram, open(0), 0, d)
				got := wantAccess(t, m, addr, portSizes[port], kind, 0x141)
				want := stored(ram, at, 8, port/4096*1024+0x1f+behindMark[kind])
				if got.code != 0 || !bytes.Equal(got.m.Ram, want) {
					t.Fatalf("port %d, kind %d: code %d", port, kind, got.code)
				}
				bare := reached(machineOf(ram, plain(), 0, d), port, portSizes[port], kind, 0x141)
				if got.x != bare.x || !sameDev(got.m.Dev, bare.m.Dev) {
					t.Fatalf("port %d, kind %d: %#x, want %#x", port, kind, got.x, bare.x)
				}
			}
		}
	}
}

// 17, 21, 23 by what may be alone: memory and devices are there, and the same goes through with a bit more.
func TestWhatMayNotBe(t *testing.T) {
	for _, priv := range privs {
		for _, addr := range append(slices.Clone(portAddrs), impl.RamBase+64) {
			for _, kind := range kinds {
				size := max(portSizes[addr], 1)
				if kind == impl.KdFetch {
					if addr < impl.RamBase {
						continue
					}
					size = 4
				}
				for _, b := range entryBytes() {
					list := plain()
					list[16], list[17] = b&^0x18+0x18+0x1f<<8, addr/8*2
					list[18] = greatestAddr
					m := machineOf(filled(4096), list, priv, ringing)
					got := wantAccess(t, m, addr, size, kind, 7)
					bound := priv != 3 || bit(b, 7) == 1
					if (got.code == 0) == (bound && bit(b, kindBits[kind]) == 0) || got.code != 0 && got.code != accessFaults[kind]+16 {
						t.Fatalf("at %d, %#x, kind %d, byte %#x: code %d", priv, addr, kind, b, got.code)
					}
				}
			}
		}
	}
}

// Without an entry the machine alone may; with mstatus' bit 17 what counts is another's.
func TestWhoMayWithoutAnEntry(t *testing.T) {
	for _, addr := range []uint64{impl.RamBase, softAddr} {
		for _, own := range privs {
			for _, priv := range privs {
				list := withWord(withWord(plain(), 16, 0), 0, statusFor(priv))
				for _, kind := range []int64{impl.KdLoad, impl.KdStore} {
					if got := wantAccess(t, machineOf(filled(4096), list, own, quiet), addr, 4, kind, 1); (got.code == 0) != (priv == 3) {
						t.Fatalf("at %d, as %d, kind %d: code %d", own, priv, kind, got.code)
					}
					list := withWord(list, 0, statusFor(priv)-1<<17)
					if got := wantAccess(t, machineOf(filled(4096), list, own, quiet), addr, 4, kind, 1); (got.code == 0) != (own == 3) {
						t.Fatalf("at %d, kind %d without bit 17: code %d", own, kind, got.code)
					}
				}
				if got := wantAccess(t, machineOf(filled(4096), list, own, quiet), impl.RamBase, 4, impl.KdFetch, 1); (got.code == 0) != (own == 3) {
					t.Fatalf("a fetch at %d, as %d: code %d", own, priv, got.code)
				}
			}
		}
	}
}

// Promise 9: what is locked keeps its bytes, from the machine too, whatever part of it a store would touch.
func TestWhatIsLockedStays(t *testing.T) {
	kept := 0
	for _, a := range []uint64{0x10, 0x11, 0x13, 0x17} {
		for _, b := range []uint64{0x80, 0x81, 0x84, 0x85, 0x83, 0x00, 0x01} {
			for _, reach := range []uint64{0x08, 0x10, 0x18} {
				list := plain()
				list[16], list[17] = (b+reach)<<8+0x1f<<16, impl.RamBase/4+0x0c
				list[18], list[19] = impl.RamBase/4+a, greatestAddr
				var locked []int
				for k := range 0x80 {
					if impl.Locked(list, impl.RamBase+uint64(k)) {
						locked = append(locked, k)
					}
				}
				for _, priv := range privs {
					m := machineOf(filled(4096), list, priv, quiet)
					for at := range 0x80 {
						for _, size := range sizes {
							if at%int(size) != 0 {
								continue
							}
							got := wantAccess(t, m, impl.RamBase+uint64(at), size, impl.KdStore, ^loaded(m.Ram, at, size))
							for _, k := range locked {
								if got.m.Ram[k] != m.Ram[k] {
									t.Fatalf("a store of %d at %#x changed a locked byte", size, at)
								}
							}
							if got.code == 23 {
								kept++
							}
						}
					}
				}
			}
		}
	}
	if kept < 1000 {
		t.Errorf("%d stores were refused", kept)
	}
}

// Promise 9: a page without bit 2, or another's, keeps its bytes.
func TestPagesThatMayNotBeStoredInto(t *testing.T) {
	for low := range uint64(256) {
		ram, at := tabled(midAddr, 0, (ramFrame+2)*1024+low)
		for _, priv := range []int64{0, 1} {
			for _, status := range []uint64{0, lendUser, lendFetch + lendUser} {
				m := machineOf(ram, open(status), priv, quiet)
				got := wantAccess(t, m, midAddr, 8, impl.KdStore, allOnes)
				goes := bit(low, 0) == 1 && bit(low, 1) == 1 && bit(low, 2) == 1 && (bit(low, 4) == 1) == (priv == 0)
				goes = goes || low%32&0x17 == 0x17 && priv == 1 && status&lendUser != 0
				if (got.code == 0) != goes {
					t.Fatalf("leaf %#x at %d: code %d", low, priv, got.code)
				}
				if !goes && !bytes.Equal(got.m.Ram, ram) {
					t.Fatalf("leaf %#x at %d: the memory has changed", low, priv)
				}
				if goes && loaded(got.m.Ram, at, 8) != (ramFrame+2)*1024+low|0xc0 {
					t.Fatalf("leaf %#x at %d: it is %#x", low, priv, loaded(got.m.Ram, at, 8))
				}
			}
		}
	}
}

// An entry that is itself stored into: the mark comes first.
func TestStoresIntoTheEntryThatLeads(t *testing.T) {
	addr := midAddr - midAddr%4096 + 9*8
	leaf := ramFrame*1024 + 0x0f
	ram, at := tabled(addr, 0, leaf)
	for _, x := range []struct {
		size  int64
		more  uint64
		x     uint64
		entry uint64
	}{
		{8, 0, 0x123, 0x123}, {1, 0, 0x01, leaf - 0x0f + 0x01}, {1, 1, 0x77, leaf&^0xff00 + 0x7700 + 0xc0}, {4, 4, 0, leaf%(1<<32) + 0xc0},
	} {
		m := machineOf(ram, open(0), 1, quiet)
		want := m
		want.Ram = stored(ram, at, 8, x.entry)
		_, out, code := impl.Access(m, addr+x.more, x.size, impl.KdStore, x.x)
		if code != 0 || !sameMachine(out, want) || !sameMachine(reached(m, addr+x.more, x.size, impl.KdStore, x.x).m, want) {
			t.Errorf("a store of %d into its own entry: code %d, %#x, want %#x", x.size, code, loaded(out.Ram, at, 8), x.entry)
		}
	}
}

// A store into the 8 bytes of Hold lets go of it; one into those ahead and behind does not, nor does a load or a fetch.
func TestHeld(t *testing.T) {
	for _, priv := range privs {
		m := machineOf(filled(4096), plain(), priv, quiet)
		m.Held = true
		for hold := uint64(16); hold < 24; hold++ {
			m.Hold = impl.RamBase + hold
			for _, size := range sizes {
				for at := uint64(0); at < 40; at += uint64(size) {
					want := m
					want.Ram = stored(m.Ram, int(at), size, 0)
					if at >= 16 && at < 24 {
						want.Held, want.Hold = false, 0
					}
					wantTold(t, m, impl.RamBase+at, size, impl.KdStore, 0, told{0, want, 0})
					wantTold(t, m, impl.RamBase+at, size, impl.KdLoad, 0, told{loaded(m.Ram, int(at), size), m, 0})
				}
			}
			wantTold(t, m, impl.RamBase+16, 4, impl.KdFetch, 0, told{loaded(m.Ram, 16, 4), m, 0})
			wantTold(t, m, impl.RamBase+20, 4, impl.KdFetch, 0, told{loaded(m.Ram, 20, 4), m, 0})
			// What was there is stored again: it is a store all the same.
			want := m
			want.Held, want.Hold = false, 0
			wantTold(t, m, impl.RamBase+16, 8, impl.KdStore, loaded(m.Ram, 16, 8), told{0, want, 0})
		}
	}
}

// Hold at the ends of the memory and far from it.
func TestHeldElsewhere(t *testing.T) {
	for _, hold := range append([]uint64{impl.RamBase, impl.RamBase + 7, impl.RamBase + 8, impl.RamBase + 4088, impl.RamBase + 4095, impl.RamBase + 4096, impl.RamBase - 1}, edgeNumbers...) {
		m := machineOf(filled(4096), plain(), 3, quiet)
		m.Held, m.Hold = true, hold
		for _, at := range []uint64{0, 8, 16, 4080, 4088} {
			for _, size := range sizes {
				got := wantAccess(t, m, impl.RamBase+at, size, impl.KdStore, 1)
				if got.m.Held == (hold-hold%8 == impl.RamBase+at) || got.m.Held != (got.m.Hold == hold) && hold != 0 {
					t.Fatalf("Hold %#x, a store at %#x: %v", hold, at, got.m.Held)
				}
			}
		}
		for _, port := range portAddrs {
			got := wantAccess(t, m, port, portSizes[port], impl.KdStore, 1)
			if got.m.Held == (hold-hold%8 == port-port%8) {
				t.Fatalf("Hold %#x, a store at %#x: %v", hold, port, got.m.Held)
			}
		}
	}
}

// Devices are stored into as memory is.
func TestHeldAtADevice(t *testing.T) {
	for _, port := range portAddrs {
		for k := -16; k < 24; k++ {
			m := machineOf(filled(4096), plain(), 3, ringing)
			m.Held, m.Hold = true, port-port%8+uint64(k)
			got := wantAccess(t, m, port, portSizes[port], impl.KdStore, 1)
			if got.code != 0 || got.m.Held != (k < 0 || k > 7) {
				t.Fatalf("Hold %d from %d on: %v", k, port, got.m.Held)
			}
			if got := wantAccess(t, m, port, portSizes[port], impl.KdLoad, 1); got.code != 0 || !got.m.Held {
				t.Fatalf("Hold %d from %d on, a load: %v", k, port, got.m.Held)
			}
		}
	}
}

// A store where nothing is, or by another size than the device's, leaves Hold even there.
func TestHeldWhereNothingIsStored(t *testing.T) {
	for _, hold := range []uint64{0, 8, 0x1000, impl.RamBase - 8, impl.RamBase + 4096, 1 << 63, allOnes - 7, softAddr, cmpAddr, timeAddr, byteAddr, byteAddr + 8} {
		for k := range uint64(8) {
			m := machineOf(filled(4096), plain(), 3, quiet)
			m.Held, m.Hold = true, hold+k
			for _, size := range sizes {
				for at := hold; at-hold < 8; at += uint64(size) {
					if portSizes[at] != size {
						wantRefused(t, m, at, size, impl.KdStore, 23)
						wantRefused(t, m, at, size, impl.KdLoad, 21)
					}
				}
			}
		}
	}
}

// It is the physical address that counts; a store that is refused, and an entry that is marked, leave it held.
func TestHeldByTables(t *testing.T) {
	ram, at := tabled(midAddr, 0, (ramFrame+2)*1024+0x1f)
	m := machineOf(ram, open(0), 0, quiet)
	m.Held = true
	for _, x := range []struct {
		hold  uint64
		stays bool
	}{
		{impl.RamBase + 0x2678, false}, {impl.RamBase + 0x267f, false}, {impl.RamBase + 0x2680, true}, {impl.RamBase + 0x2677, true},
		{midAddr, true}, {impl.RamBase + 0x678, true}, {impl.RamBase + uint64(at), true}, {impl.RamBase + uint64(at) + 7, true},
	} {
		m.Hold = x.hold
		for _, size := range sizes {
			if got := wantAccess(t, m, midAddr, size, impl.KdStore, 9); got.code != 0 || got.m.Held != x.stays {
				t.Fatalf("Hold %#x, a store of %d: code %d, %v", x.hold, size, got.code, got.m.Held)
			}
			if got := wantAccess(t, m, midAddr, size, impl.KdLoad, 9); got.code != 0 || !got.m.Held {
				t.Fatalf("Hold %#x, a load of %d: code %d, %v", x.hold, size, got.code, got.m.Held)
			}
			shut := m
			shut.Csrs = shutAt(0, 0x2678, 0x05)
			if got := wantAccess(t, shut, midAddr, size, impl.KdStore, 9); got.code != 23 || !got.m.Held || got.m.Hold != x.hold {
				t.Fatalf("Hold %#x, a store of %d that may not be: code %d, %v", x.hold, size, got.code, got.m.Held)
			}
			if got := wantAccess(t, m, midAddr+4096, size, impl.KdStore, 9); got.code != 31 || !got.m.Held || got.m.Hold != x.hold {
				t.Fatalf("Hold %#x, a store of %d that leads nowhere: code %d, %v", x.hold, size, got.code, got.m.Held)
			}
		}
	}
}

func TestLinedOfMany(t *testing.T) {
	for _, m := range rightMachines(t) {
		wantLined(t, m, m)
	}
	right := rightMachines(t)
	for k, m := range crossed(t) {
		wantLined(t, m, right[k/7])
	}
}

func TestLinedRefuses(t *testing.T) {
	for _, m := range broken(t) {
		wantLined(t, m, impl.Machine{})
		for _, lines := range []uint64{0x8, 0x80, 0x800, 0x888} {
			if len(m.Csrs) > 9 {
				m.Csrs = withWord(m.Csrs, 9, m.Csrs[9]^lines)
				wantLined(t, m, impl.Machine{})
			}
		}
	}
	base := machineOf(filled(4096), plain(), 3, quiet)
	for n := range 64 {
		if n == 22 {
			continue
		}
		m := base
		m.Csrs = make([]uint64, n)
		wantLined(t, m, impl.Machine{})
		wantOk(t, m, false)
		wantNoAccess(t, m, impl.RamBase, 4, impl.KdLoad, 0)
	}
}

// mixedMachine has tables that lead to its own pages and to devices, and anything in the rest.
func mixedMachine(d *dice) impl.Machine {
	ram := make([]byte, 0, 4*4096)
	frames := []uint64{0, 0, ramFrame, ramFrame, ramFrame, ramFrame, ramFrame + 1, ramFrame + 2, ramFrame + 3, ramFrame + 4, softAddr / 4096, byteAddr / 4096}
	bits := []uint64{0x01, 0x01, 0x01, 0x0f, 0x1f, 0x0f, 0x1f, 0x0f, 0x1f, 0xdf, 0xcf, 0x4f, 0x5f, 0x03, 0x13, 0x09, 0x19, 0x00, 0x17}
	for range 4 * 512 {
		e := frames[d.below(12)]*1024 + bits[d.below(19)]
		for k := range 8 {
			ram = append(ram, byte(e>>(8*k)))
		}
	}
	m := machineOf(ram, open(0), privs[d.below(3)], impl.Dev{Cmp: d.below(1 << 20)})
	m.Csrs[15] = m.Csrs[15]&^3 + d.below(4)
	return m
}

// changed is the machine with something else about it, as others than an access may change it.
func changed(d *dice, m impl.Machine, guards [][]uint64) impl.Machine {
	m.Csrs = slices.Clone(m.Csrs)
	switch d.below(12) {
	case 0:
		m.Priv = privs[d.below(3)]
	case 1:
		m.Csrs[0] = someStatuses[d.below(8)] &^ 0x21800
	case 2:
		m.Csrs[0] = statusFor(privs[d.below(3)])
	case 3:
		copy(m.Csrs[16:21], open(0)[16:21])
		if d.below(4) == 0 {
			copy(m.Csrs[16:21], guards[d.below(uint64(len(guards)))][16:21])
		}
	case 4:
		m.Csrs[15] ^= 8 << 60
	case 5:
		m.Held, m.Hold = true, impl.RamBase+d.below(16)+d.below(2)*0x2000
	case 6:
		m.Dev = impl.Byte(m.Dev, byte(d.below(256)))
	case 7:
		m.Dev = impl.Tick(m.Dev, int64(d.below(1<<18)))
	case 8:
		m.Wait = !m.Wait
	}
	m.Csrs[9] = m.Csrs[9]&^0x888 | linesOf(m.Dev)
	return m
}

// mixedAddr is one that may lead somewhere: into memory or to a device, by an entry of each level or by none.
func mixedAddr(d *dice) uint64 {
	low := d.below(16) + d.below(2)*0x2000
	if d.below(2) == 0 {
		low = portAddrs[d.below(6)]
	}
	switch d.below(6) {
	case 0:
		return portAddrs[d.below(6)]
	case 1:
		return d.below(256)<<30 + low
	case 2:
		return d.below(256)<<30 + d.below(512)<<21 + d.below(512)<<12 + low%4096
	case 3:
		return d.below(256)<<30 + d.below(512)<<21 + low%(1<<21)
	}
	return impl.RamBase + low
}

// Promise 9, through all that can happen, in any order.
func TestMixedAccesses(t *testing.T) {
	d, seen, guards := dice(0x13198a2e03707344), map[[2]int64]int{}, guardedLists()
	guards = guards[len(guards)-3*256:] // those about the memory's beginning
	marked, let, sent := 0, 0, 0
	for range 60 {
		m := mixedMachine(&d)
		for range 300 {
			m = changed(&d, m, guards)
			kind := kinds[d.below(3)]
			size := sizes[d.below(4)]
			if kind == impl.KdFetch {
				size = 4
			}
			addr := mixedAddr(&d)
			if own, port := portSizes[addr]; port && d.below(4) > 0 && kind != impl.KdFetch {
				size = own
			}
			if d.below(8) > 0 {
				addr -= addr % uint64(size)
			}
			got := wantAccess(t, m, addr, size, kind, d.below(1<<53)<<d.below(12))
			seen[[2]int64{kind, got.code}]++
			if kind != impl.KdStore && !bytes.Equal(got.m.Ram, m.Ram) {
				marked++
			}
			if m.Held && !got.m.Held {
				let++
			}
			if !sameDev(m.Dev, got.m.Dev) {
				sent++
			}
			_, m, _ = impl.Access(m, addr, size, kind, d.below(1<<53)<<d.below(12))
		}
	}
	for _, row := range [][2]int64{{1, 0}, {1, 16}, {1, 17}, {1, 28}, {2, 0}, {2, 20}, {2, 21}, {2, 29}, {3, 0}, {3, 22}, {3, 23}, {3, 31}} {
		if seen[row] < 100 {
			t.Errorf("kind %d, code %d was met %d times", row[0], row[1], seen[row])
		}
	}
	if marked < 50 || let < 50 || sent < 50 {
		t.Errorf("%d accesses marked something, %d let go, %d changed devices", marked, let, sent)
	}
}

// Promise 15: the lists of an argument may be pieces of one, side by side or one upon the other.
func TestMachinesThatShareARoom(t *testing.T) {
	for _, x := range [][2]int{{0, 32}, {32, 0}, {0, 10}, {10, 0}, {0, 0}} {
		words, room := make([]uint64, 64), filled(3*4096)
		m := impl.Machine{X: words[x[0] : x[0]+32], Csrs: words[x[1] : x[1]+22], Priv: 3, Ram: room[:8192], Dev: impl.Dev{Cmp: 1, In: room[4096:4104], Out: room[4100:9000][:4096]}}
		wordsWas, roomWas := slices.Clone(words), bytes.Clone(room)
		for _, addr := range append([]uint64{impl.RamBase, impl.RamBase + 4096, impl.RamBase + 4100}, portAddrs...) {
			size := max(portSizes[addr], 1)
			for _, kind := range []int64{impl.KdLoad, impl.KdStore} {
				want := reached(m, addr, size, kind, 0xa5)
				got, out, code := impl.Access(m, addr, size, kind, 0xa5)
				if got != want.x || code != 0 || !sameMachine(out, want.m) {
					t.Fatalf("at %#x, kind %d: %#x, %d, %s", addr, kind, got, code, showMachine(out))
				}
				checkNew(t, out, want.m, rooms{x: words, ram: room}, rooms{x: wordsWas, ram: roomWas})
			}
		}
		out := impl.Lined(m)
		if !sameMachine(out, m) {
			t.Fatalf("Lined: %s", showMachine(out))
		}
		checkNew(t, out, machineCopy(m), rooms{x: words, ram: room}, rooms{x: wordsWas, ram: roomWas})
	}
}

func machineCopy(m impl.Machine) impl.Machine {
	m.X, m.Csrs, m.Ram = slices.Clone(m.X), slices.Clone(m.Csrs), bytes.Clone(m.Ram)
	m.In, m.Out = bytes.Clone(m.In), bytes.Clone(m.Out)
	return m
}

// Promise 15: no argument makes one of them panic, and no call leaves a goroutine behind.
func TestTheBusAnswersAtEveryArgument(t *testing.T) {
	all := slices.Concat(rightMachines(t), broken(t))
	numbers := append([]int64{1, 2, 3, 4, 8, math.MaxInt64, math.MinInt64}, noSizes...)
	addrs := append(strangeAddrs(), edgeNumbers...)
	before := runtime.NumGoroutine()
	for k := range 20000 {
		m, n, addr := all[k*7%len(all)], numbers[k*5%len(numbers)], addrs[k*3%len(addrs)]
		impl.Access(m, addr, n, int64(k%6)-1, edgeNumbers[k%len(edgeNumbers)])
		impl.Access(m, addr, sizes[k%4], kinds[k%3], edgeNumbers[k%len(edgeNumbers)])
		impl.MachineOk(impl.Lined(m))
		impl.NewMachine(m.Ram)
		if after := runtime.NumGoroutine(); after != before {
			t.Fatalf("%d goroutines ahead of the calls, %d behind them", before, after)
		}
	}
}
