package tests

import (
	"bytes"
	"math"
	"runtime"
	"slices"
	"strings"
	"testing"
	"time"

	"loop.example/g00134/impl"
)

// keeping is a second reading of Fast, for what is right: a cache, and how often it was asked.
type keeping struct {
	s           stepper
	c           impl.Cache
	hits, walks int
}

func (s stepper) keeping(c impl.Cache) *keeping {
	k := &keeping{s: s, c: c}
	k.s.lead = k.lead
	return k
}

func (k *keeping) lead(ram []byte, list []uint64, priv int64, addr uint64, kind int64) path {
	if priv == 3 || list[15]>>60 != 8 {
		return led(ram, list, priv, addr, kind)
	}
	if to, ok := found(k.c, kind, priv, addr); ok {
		k.hits++
		return path{to, 0, ram}
	}
	p := led(ram, list, priv, addr, kind)
	if p.code == 0 {
		k.walks++
		k.c = keptIn(k.c, keptFor{kind, priv}, addr, p.to)
	}
	return p
}

// droppers are the numbers of the registers a write of which drops all.
var droppers = []int64{256, 384, 768, 928, 944, 945, 946, 947}

// dropped is the cache behind an instruction that was done.
func (k *keeping) dropped(i impl.Inst, x []uint64) impl.Cache {
	l := k.s.ops[i.Op-1]
	writes := l.form == "C" && (strings.HasPrefix(l.name, "csrrw") || i.A != 0)
	switch {
	case l.name == "mret", l.name == "sret", l.name == "sfence.vma" && i.A == 0, writes && slices.Contains(droppers, i.Imm):
		return emptyCache()
	case l.name == "sfence.vma":
		return droppedOf(k.c, x[i.A], false)
	}
	return k.c
}

func (k *keeping) step(m impl.Machine) after {
	fetched := (&keeping{s: k.s, c: k.c}).lead(m.Ram, m.Csrs, m.Priv, m.Pc, impl.KdFetch)
	out := k.s.read(m)
	switch out.what {
	case 1:
		i, _ := wanted(k.s.t, k.s.ops, loaded(fetched.ram, int(fetched.to-impl.RamBase), 4))
		k.c = k.dropped(i, m.X)
	case 2, 3:
		k.c = emptyCache()
	}
	return out
}

// ran is what a run comes to.
type ran struct {
	m     impl.Machine
	c     impl.Cache
	whats []int64
}

func (k *keeping) steps(m impl.Machine, n int64) ran {
	var whats []int64
	for range n {
		out := k.step(m)
		m, whats = out.m, append(whats, out.what)
		if out.what == 4 {
			break
		}
	}
	return ran{m, k.c, whats}
}

// sameFast holds Fast against what it must come to, and asks besides that all is right behind it. Promise 15: the arguments and their spare room stay, and what is answered is new memory, each of its lists of its own.
func sameFast(t *testing.T, m impl.Machine, c impl.Cache, n int64, want ran) {
	t.Helper()
	given, all := spacious(m)
	kept, room := withRoom(c)
	was, roomWas := all.copied(), slices.Clone(room)
	out, cache, whats := impl.Fast(given, kept, n)
	if !sameMachine(out, want.m) || !slices.Equal(whats, want.whats) {
		t.Fatalf("Fast of %s\nwith %v, %d: %v, %s\nwant %v, %s", showMachine(m), c, n, whats, showMachine(out), want.whats, showMachine(want.m))
	}
	if !slices.Equal(cache.Slots, want.c.Slots) {
		t.Fatalf("Fast of %s\nwith %v, %d: the cache is %v\nwant %v", showMachine(m), c, n, cache, want.c)
	}
	if !all.same(was) || !slices.Equal(room, roomWas) {
		t.Fatalf("Fast of %s: an argument was written into", showMachine(m))
	}
	if len(want.m.Ram) > 0 && (!impl.MachineOk(out) || !impl.CacheOk(cache)) {
		t.Fatalf("Fast of %s\nwith %v, %d: not right: %s, %v", showMachine(m), c, n, showMachine(out), cache)
	}
	if n == 1 && len(whats) == 1 {
		checkStep(t, m, out, whats[0])
	}
	turnSlots(cache.Slots)
	for k, what := range whats {
		whats[k] = ^what
	}
	if !sameMachine(out, want.m) || !slices.Equal(room, roomWas) {
		t.Fatalf("Fast of %s: the cache shares memory", showMachine(m))
	}
	checkNew(t, out, machineCopy(want.m), all, was)
	if !slices.Equal(room, roomWas) {
		t.Fatalf("Fast of %s: the machine shares memory with the cache", showMachine(m))
	}
}

// fast holds Fast against the second reading.
func (s stepper) fast(m impl.Machine, c impl.Cache, n int64) ran {
	s.t.Helper()
	want := s.keeping(c).steps(m, n)
	sameFast(s.t, m, c, n, want)
	return want
}

// goes wants a run of one step to be this, and to leave this in the cache; what it makes of the machine is the second reading's.
func (s stepper) goes(m impl.Machine, c impl.Cache, what int64, left impl.Cache) impl.Machine {
	s.t.Helper()
	got := s.fast(m, c, 1)
	if got.whats[0] != what || !slices.Equal(got.c.Slots, left.Slots) {
		s.t.Fatalf("Fast of %s\nwith %v: %v, %v\nwant %d, %v", showMachine(m), c, got.whats, got.c, what, left)
	}
	return got.m
}

// traps wants a run of one step to end in an exception to the machine, and to drop all.
func (s stepper) traps(m impl.Machine, c impl.Cache, cause, value uint64) {
	s.t.Helper()
	out := s.goes(m, c, impl.ToTrap, emptyCache())
	if out.Priv != 3 || out.Csrs[7] != cause || out.Csrs[6] != m.Pc || out.Csrs[8] != value {
		s.t.Fatalf("cause %d, mepc %#x, mtval %#x; want %d, %#x, %#x", out.Csrs[7], out.Csrs[6], out.Csrs[8], cause, m.Pc, value)
	}
}

func slotOf(kind, priv int64, addr, to uint64) impl.Slot {
	return impl.Slot{Used: true, Kind: kind, Priv: priv, Page: addr / 4096, Frame: to / 4096}
}

// cacheOf has these slots, each at its place, the later ones in place of earlier ones.
func cacheOf(slots ...impl.Slot) impl.Cache {
	c := emptyCache()
	for _, s := range slots {
		c.Slots[(s.Page+shifts[keptFor{s.Kind, s.Priv}])%16] = s
	}
	return c
}

// line is an instruction by its name.
type line struct {
	name         string
	rd, a, b, im int64
}

// The town is a memory of eight pages: its tables are in the first three, code in the fifth, data in the sixth and seventh, what traps go to in the eighth. Its first pages are the supervisor's, and those from the 32nd on the user's.
const (
	townAddr = uint64(3<<30 + 5<<21)
	townCode = 0x4000
	townData = 0x5000
	townNext = 0x6000
	townTrap = 0x7000
)

// townLeaves has by page where it leads, and its bits. The pages 16 and 17 have the places in a cache of 0 and 1, and 11 has for loads that of 0 for fetches, at each privilege.
var townLeaves = map[uint64][2]uint64{
	0: {townCode, 0x0b}, 1: {townData, 0x07}, 2: {townNext, 0x07}, 3: {townTrap, 0x0f}, 11: {townNext, 0x07}, 16: {townCode, 0x0b}, 17: {townNext, 0x07},
}

// homeOf is the first page of a privilege.
func homeOf(priv int64) uint64 {
	if priv == 0 {
		return townAddr + 32*4096
	}
	return townAddr
}

// leafAt is the place in the memory of the leaf of an address of the town.
func leafAt(addr uint64) int {
	return 0x2000 + int(addr/4096%512)*8
}

// greatLevel1 and greatLevel2 are addresses that leaves of those levels lead to the memory's beginning, the supervisor's and 16 of them on the user's.
const (
	greatLevel1 = uint64(3<<30 + 6<<21)
	greatLevel2 = uint64(4 << 30)
)

func townRam() []byte {
	ram := make([]byte, 8*4096)
	copy(ram[townData:], filled(3*4096))
	lay := func(at int, x uint64) { copy(ram[at:], stored(make([]byte, 8), 0, 8, x)) }
	lay(8*3, (ramFrame+1)*1024+1)
	lay(4096+8*5, (ramFrame+2)*1024+1)
	lay(4096+8*6, ramFrame*1024+0x0f)
	lay(4096+8*(6+16), ramFrame*1024+0x1f)
	lay(8*4, ramFrame*1024+0x0f)
	lay(8*(4+16), ramFrame*1024+0x1f)
	for page, leaf := range townLeaves {
		lay(leafAt(townAddr+page*4096), (impl.RamBase+leaf[0])/4+leaf[1])
		lay(leafAt(townAddr+(page+32)*4096), (impl.RamBase+leaf[0])/4+leaf[1]+0x10)
	}
	return ram
}

// dataOff is where in the pages of data the town's registers point: x6 into the first one, x8 into the second, x9 and x16 into the two that have places of others.
const dataOff = 0x240

// town is a machine about to do these instructions, at the first page of its privilege, or there without tables.
func (s stepper) town(priv int64, lines ...line) impl.Machine {
	s.t.Helper()
	list := open(0)
	list[4], list[10], list[15] = impl.RamBase+townTrap, townAddr+3*4096, 8<<60+0x5a5a<<44+ramFrame
	m := machineOf(townRam(), list, priv, quiet)
	m.Wait = false
	for k, l := range lines {
		copy(m.Ram[townCode+4*k:], stored(make([]byte, 4), 0, 4, s.word(l.name, l.rd, l.a, l.b, l.im)))
	}
	home := homeOf(priv)
	for k, page := range map[int]uint64{6: 1, 8: 2, 9: 11, 16: 17} {
		m.X[k] = home + page*4096 + dataOff
	}
	if m.Pc = home; priv == 3 {
		m.Pc = impl.RamBase + townCode
	}
	return m
}

// codeSlot is what a fetch of the town's first page keeps.
func codeSlot(priv int64) impl.Slot {
	return slotOf(impl.KdFetch, priv, homeOf(priv), impl.RamBase+townCode)
}

// dataSlot is what an access of the town's first page of data keeps.
func dataSlot(kind, priv int64) impl.Slot {
	return slotOf(kind, priv, homeOf(priv)+4096, impl.RamBase+townData)
}

// torn is the machine without any table: it goes by what is kept alone.
func torn(m impl.Machine) impl.Machine {
	m.Ram = bytes.Clone(m.Ram)
	clear(m.Ram[:3*4096])
	return m
}

// atPc is the machine with another Pc.
func atPc(m impl.Machine, pc uint64) impl.Machine {
	m.Pc = pc
	return m
}

func TestRunConstants(t *testing.T) {
	if impl.MaxEvents != 100 || impl.EvRun != 1 || impl.EvTime != 2 || impl.EvByte != 3 {
		t.Error(impl.MaxEvents, impl.EvRun, impl.EvTime, impl.EvByte)
	}
}

var noRuns = []int64{-1, -2, -255, -256, -300, -1 << 32, math.MinInt64, math.MinInt64 + 1, 301, 302, 511, 512, 556, 65536, 1 << 32, 1<<32 + 1, math.MaxInt64}

func TestFastRefuses(t *testing.T) {
	s := stepperOf(t)
	nothing := ran{}
	for k, m := range slices.Concat(broken(t), crossed(t)) {
		for _, n := range []int64{-1, 0, 1, 300, 301} {
			sameFast(t, m, rightCaches()[k%31], n, nothing)
		}
	}
	m := s.town(1, line{"jal", 0, 0, 0, 0})
	for k, c := range wrongCaches() {
		sameFast(t, m, c, int64(k%3), nothing)
		if k%37 == 0 {
			sameFast(t, m, c, 300, nothing)
			sameFast(t, m, c, 301, nothing)
			sameFast(t, impl.Machine{}, c, 1, nothing)
		}
	}
	for _, n := range noRuns {
		for _, c := range []impl.Cache{emptyCache(), fullCache(1), {}} {
			sameFast(t, m, c, n, nothing)
		}
	}
}

// Runs of each length that goes, by a table and without one; the limit is met exactly.
func TestHowFarFastGoes(t *testing.T) {
	s := stepperOf(t)
	for _, priv := range privs {
		m := s.town(priv, line{"ld", 5, 6, 0, 0}, line{"addi", 10, 10, 0, 1}, line{"jal", 0, 0, 0, -8})
		c := emptyCache()
		if priv == 3 {
			m.Ram = stored(m.Ram, townCode, 4, s.word("addi", 5, 0, 0, 1))
		} else {
			c = cacheOf(codeSlot(priv), dataSlot(impl.KdLoad, priv))
		}
		for _, n := range []int64{1, 2, 3, 255, 256, 299, 300} {
			got := s.fast(m, emptyCache(), n)
			if int64(len(got.whats)) != n || got.m.X[10] != m.X[10]+uint64(n+1)/3 || got.m.Csrs[21] != 21+uint64(n) {
				t.Fatalf("Fast of %d: %v", n, got.whats)
			}
			if n > 0 && !slices.Equal(got.c.Slots, c.Slots) {
				t.Fatalf("Fast of %d: %v", n, got.c)
			}
		}
		for _, c := range rightCaches() {
			sameFast(t, m, c, 0, ran{m, c, nil})
		}
	}
}

// A wait is told, and is the last: as the first step, in the middle, and at the end. It drops nothing.
func TestFastThatWaits(t *testing.T) {
	s := stepperOf(t)
	m := s.town(1, line{"ld", 5, 6, 0, 0}, line{"wfi", 0, 0, 0, 0}, line{"ld", 5, 8, 0, 0})
	c := cacheOf(codeSlot(1), dataSlot(impl.KdLoad, 1))
	for n, want := range map[int64][]int64{1: {1}, 2: {1, 1}, 3: {1, 1, 4}, 4: {1, 1, 4}, 300: {1, 1, 4}} {
		got := s.fast(m, emptyCache(), n)
		if !slices.Equal(got.whats, want) || got.m.Wait != (n > 1) || !slices.Equal(got.c.Slots, c.Slots) {
			t.Errorf("Fast of %d: %v, %v", n, got.whats, got.c)
		}
	}
	m.Wait = true
	for _, c := range rightCaches() {
		for _, n := range []int64{1, 2, 300} {
			sameFast(t, m, c, n, ran{m, c, []int64{4}})
		}
		sameFast(t, m, c, 0, ran{m, c, nil})
	}
	// What it waits for comes: an interrupt that is not taken lets it go on, one that is drops all.
	m.Csrs = withWord(withWord(withWord(m.Csrs, 2, 2), 3, 2), 9, 2)
	got := s.goes(m, cacheOf(dataSlot(impl.KdStore, 1)), 1, cacheOf(codeSlot(1), dataSlot(impl.KdLoad, 1), dataSlot(impl.KdStore, 1)))
	if got.Wait {
		t.Error("it waits still")
	}
	m.Csrs = withWord(m.Csrs, 0, 2)
	s.goes(m, c, 3, emptyCache())
}

// keptBy has, by the instruction, for which kinds of access its page of data is kept.
var keptBy = map[string][]int64{
	"lb": {2}, "lh": {2}, "lw": {2}, "ld": {2}, "lbu": {2}, "lhu": {2}, "lwu": {2}, "sb": {3}, "sh": {3}, "sw": {3}, "sd": {3},
	"lr.w": {2}, "lr.d": {2}, "sc.w": {3}, "sc.d": {3}, "amoadd.w": {3, 2}, "amoswap.d": {3, 2}, "amomaxu.w": {3, 2}, "amoxor.d": {3, 2}, "addi": nil,
}

// reaching is the line of an instruction of keptBy, by x6 as where, x7 as what, x5 as Rd.
func reaching(name string) line {
	l := line{name, 5, 6, 7, 0}
	switch {
	case name[0] == 's' && name[1] != 'c':
		l.rd = 0
	case name[0] == 'l' || name == "addi":
		l.b = 0
	}
	return l
}

func keptSlots(name string, priv int64) []impl.Slot {
	all := []impl.Slot{codeSlot(priv)}
	for _, kind := range keptBy[name] {
		all = append(all, dataSlot(kind, priv))
	}
	return all
}

// marks are what an instruction of keptBy marks in the leaf of its data.
func marks(name string) uint64 {
	switch {
	case len(keptBy[name]) == 0:
		return 0
	case slices.Contains(keptBy[name], impl.KdStore):
		return 0xc0
	}
	return 0x40
}

// The first access through a table walks, marks and keeps; the next takes what is kept, and neither reads nor marks a table.
func TestTheFirstAccessKeeps(t *testing.T) {
	s := stepperOf(t)
	for name := range keptBy {
		for _, priv := range keptPrivs {
			for _, held := range []bool{false, true} {
				m := s.town(priv, reaching(name))
				if held {
					m.Held, m.Hold = true, impl.RamBase+townData+dataOff
				}
				c := cacheOf(keptSlots(name, priv)...)
				out := s.goes(m, emptyCache(), 1, c)
				code, data := leafAt(homeOf(priv)), leafAt(homeOf(priv)+4096)
				if loaded(out.Ram, code, 8) != loaded(m.Ram, code, 8)+0x40 || loaded(out.Ram, data, 8) != loaded(m.Ram, data, 8)+marks(name) {
					t.Fatalf("%s at %d: the leaves are %#x, %#x", name, priv, loaded(out.Ram, code, 8), loaded(out.Ram, data, 8))
				}
				for _, bare := range []impl.Machine{torn(m), m} {
					again := s.goes(bare, c, 1, c)
					if !bytes.Equal(again.Ram[:3*4096], bare.Ram[:3*4096]) {
						t.Fatalf("%s at %d: a table is marked", name, priv)
					}
					if !slices.Equal(again.X, out.X) || again.Held != out.Held || again.Hold != out.Hold || !bytes.Equal(again.Ram[3*4096:], out.Ram[3*4096:]) {
						t.Fatalf("%s at %d: %s, and then %s", name, priv, showMachine(out), showMachine(again))
					}
				}
			}
		}
	}
}

// What is not kept is asked of the tables: that of the fetch, and that of each kind of access.
func TestWhatIsNotKeptIsWalkedFor(t *testing.T) {
	s := stepperOf(t)
	for name, kinds := range keptBy {
		for _, priv := range keptPrivs {
			m := torn(s.town(priv, reaching(name)))
			s.traps(m, emptyCache(), 12, m.Pc)
			all := keptSlots(name, priv)
			s.traps(m, cacheOf(all[1:]...), 12, m.Pc)
			for k, kind := range kinds {
				left := slices.Delete(slices.Clone(all), 1+k, 2+k)
				cause := uint64(pageFaults[kind])
				if len(kinds) == 2 {
					cause = 15 // a load's is told as a store's
				}
				s.traps(m, cacheOf(left...), cause, m.X[6])
				// With the tables it is walked for, marked and kept again.
				whole := s.town(priv, reaching(name))
				out := s.goes(whole, cacheOf(left...), 1, cacheOf(all...))
				data := leafAt(homeOf(priv) + 4096)
				if loaded(out.Ram, data, 8) != loaded(whole.Ram, data, 8)+behindMark[kind] {
					t.Fatalf("%s at %d: the leaf is %#x", name, priv, loaded(out.Ram, data, 8))
				}
			}
		}
	}
}

// A slot of one kind serves no other kind, one of one privilege no other, one of one page no other.
func TestASlotServesNoOther(t *testing.T) {
	s := stepperOf(t)
	for name, kinds := range keptBy {
		for _, priv := range keptPrivs {
			m := torn(s.town(priv, reaching(name)))
			for _, f := range allFor {
				for _, page := range []uint64{0, 1, 2, 17} {
					other := slotOf(f.kind, f.priv, homeOf(priv)+page*4096, impl.RamBase+townData)
					if f.priv == priv && (page == 0 && f.kind == impl.KdFetch || page == 1 && slices.Contains(kinds, f.kind)) {
						continue
					}
					s.traps(m, cacheOf(other), 12, m.Pc)
					if len(kinds) == 0 || cacheOf(other, codeSlot(priv)).Slots[(other.Page+shifts[f])%16] != other {
						continue
					}
					cause := uint64(15)
					if kinds[0] == impl.KdLoad {
						cause = 13
					}
					s.traps(m, cacheOf(other, codeSlot(priv)), cause, m.X[6])
				}
			}
		}
	}
}

// A store behind a load of the same page walks and marks; so does a load behind a fetch.
func TestAStoreBehindALoad(t *testing.T) {
	s := stepperOf(t)
	for _, priv := range keptPrivs {
		m := s.town(priv, line{"ld", 5, 6, 0, 0}, line{"ld", 5, 6, 0, 8}, line{"sd", 0, 6, 7, 0}, line{"sd", 0, 6, 7, 8}, line{"ld", 5, 6, 0, 0}, line{"auipc", 17, 0, 0, 0}, line{"lw", 5, 17, 0, 0})
		data, leaf := leafAt(m.X[6]), loaded(m.Ram, leafAt(m.X[6]), 8)
		first, load, store := codeSlot(priv), dataSlot(2, priv), dataSlot(3, priv)
		own := slotOf(impl.KdLoad, priv, homeOf(priv), impl.RamBase+townCode)
		for n, want := range []struct {
			low   uint64
			slots []impl.Slot
		}{
			{0x40, []impl.Slot{first, load}}, {0x40, []impl.Slot{first, load}}, {0xc0, []impl.Slot{first, load, store}}, {0xc0, []impl.Slot{first, load, store}},
			{0xc0, []impl.Slot{first, load, store}}, {0xc0, []impl.Slot{first, load, store}}, {0xc0, []impl.Slot{first, load, store, own}},
		} {
			got := s.fast(m, emptyCache(), int64(n+1))
			if loaded(got.m.Ram, data, 8) != leaf+want.low || !slices.Equal(got.c.Slots, cacheOf(want.slots...).Slots) || slices.Contains(got.whats, 2) {
				t.Fatalf("%d steps at %d: %v, %#x, %v", n+1, priv, got.whats, loaded(got.m.Ram, data, 8), got.c)
			}
		}
	}
}

// A table that is stored into is not read again for what is kept: Fast shows the old page, Steps the new one.
func TestATableThatIsStoredInto(t *testing.T) {
	s := stepperOf(t)
	m := s.town(1, line{"ld", 10, 6, 0, 0}, line{"sd", 0, 8, 7, 0}, line{"ld", 11, 6, 0, 0}, line{"sfence.vma", 0, 8, 0, 0}, line{"ld", 12, 6, 0, 0}, line{"sfence.vma", 0, 6, 0, 0}, line{"ld", 13, 6, 0, 0})
	m.X[8] = greatLevel2 + uint64(leafAt(m.X[6]))
	m.X[7] = (impl.RamBase+townNext)/4 + 0x07
	old, fresh := loaded(m.Ram, townData+dataOff, 8), loaded(m.Ram, townNext+dataOff, 8)
	got := s.fast(m, emptyCache(), 7)
	if !slices.Equal(got.m.X[10:14], []uint64{old, old, old, fresh}) {
		t.Errorf("Fast: %#x, %v", got.m.X[10:14], got.whats)
	}
	out, _ := impl.Steps(m, 7)
	if !slices.Equal(out.X[10:14], []uint64{old, fresh, fresh, fresh}) || old == fresh {
		t.Errorf("Steps: %#x", out.X[10:14])
	}
}

// At privilege 3 nothing is asked of the cache and nothing is kept, whatever satp says.
func TestNothingIsKeptForTheMachine(t *testing.T) {
	s := stepperOf(t)
	for _, mode := range []uint64{0, 8} {
		for name := range keptBy {
			m := s.town(3, reaching(name))
			m.X[6] = impl.RamBase + townData + dataOff
			m.Csrs[15] = m.Csrs[15]<<4>>4 + mode<<60
			var traitors []impl.Slot
			for _, f := range allFor {
				traitors = append(traitors, slotOf(f.kind, f.priv, m.Pc, impl.RamBase+townTrap), slotOf(f.kind, f.priv, m.X[6], impl.RamBase+townTrap))
			}
			for _, c := range append(rightCaches()[:6], cacheOf(traitors...)) {
				want, what := impl.Step(m)
				sameFast(t, m, c, 1, ran{want, c, []int64{what}})
				if what != 1 {
					t.Fatalf("%s: %d", name, what)
				}
				s.goes(m, c, 1, c)
			}
		}
	}
}

// Without tables nothing is asked of the cache and nothing is kept, at any privilege.
func TestNothingIsKeptWithoutTables(t *testing.T) {
	s := stepperOf(t)
	for _, priv := range privs {
		for name := range keptBy {
			m := atPc(s.town(priv, reaching(name)), impl.RamBase+townCode)
			m.X[6] = impl.RamBase + townData + dataOff
			m.Csrs[15] = m.Csrs[15] << 4 >> 4
			c := cacheOf(slotOf(1, priv%3, m.Pc, impl.RamBase+townTrap), slotOf(2, priv%3, m.X[6], impl.RamBase+townTrap), slotOf(3, priv%3, m.X[6], impl.RamBase+townTrap))
			for _, c := range []impl.Cache{emptyCache(), c, fullCache(3)} {
				want, what := impl.Step(m)
				sameFast(t, m, c, 1, ran{want, c, []int64{what}})
				s.goes(m, c, 1, c)
			}
		}
	}
}

// With mstatus' bit 17 loads and stores go by what is kept for the privilege that counts; the fetch does not.
func TestKeptForThePrivilegeThatCounts(t *testing.T) {
	s := stepperOf(t)
	for name := range keptBy {
		for _, own := range privs {
			for _, priv := range keptPrivs {
				m := s.town(own, reaching(name))
				m.X[6] = homeOf(priv) + 4096 + dataOff
				m.Csrs[0] = statusFor(priv)
				all := keptSlots(name, priv)[1:]
				if own != 3 {
					all = append(all, codeSlot(own))
				}
				s.goes(m, emptyCache(), 1, cacheOf(all...))
				s.goes(torn(m), cacheOf(all...), 1, cacheOf(all...))
				if other := cacheOf(keptSlots(name, 1-priv)...); len(all) > 0 && own == 3 {
					s.traps(torn(m), other, uint64(map[bool]int64{true: 13, false: 15}[keptBy[name][0] == 2]), m.X[6])
				}
			}
			// Where 3 counts, addresses are taken as they are.
			m := s.town(own, reaching(name))
			m.X[6] = impl.RamBase + townData + dataOff
			m.Csrs[0] = statusFor(3)
			want := emptyCache()
			if own != 3 {
				want = cacheOf(codeSlot(own))
			}
			s.goes(m, emptyCache(), 1, want)
		}
	}
}

// Of a great leaf one page is kept at a time.
func TestGreatLeavesAreKeptByPages(t *testing.T) {
	s := stepperOf(t)
	for _, priv := range keptPrivs {
		for low, great := range map[uint64]uint64{21: greatLevel1, 30: greatLevel2} {
			if priv == 0 {
				great += 16 << low
			}
			m := s.town(priv, line{"ld", 5, 6, 0, 0}, line{"sd", 0, 8, 7, 0}, line{"ld", 5, 6, 0, 8})
			m.X[6], m.X[8] = great+townData+dataOff, great+townNext+dataOff
			load := slotOf(impl.KdLoad, priv, great+townData, impl.RamBase+townData)
			store := slotOf(impl.KdStore, priv, great+townNext, impl.RamBase+townNext)
			got := s.goes(m, emptyCache(), 1, cacheOf(codeSlot(priv), load))
			if got.X[5] != loaded(m.Ram, townData+dataOff, 8) {
				t.Fatalf("%#x", got.X[5])
			}
			s.fast(m, emptyCache(), 3)
			got = s.goes(got, cacheOf(codeSlot(priv), load), 1, cacheOf(codeSlot(priv), load, store))
			if loaded(got.Ram, townNext+dataOff, 8) != m.X[7] {
				t.Fatal("it was stored elsewhere")
			}
			// The page beside it is not kept by it, for the same kind.
			m = torn(m)
			m.X[6] += 4096
			s.traps(m, cacheOf(codeSlot(priv), load), 13, m.X[6])
			m.X[6] -= 8192
			s.traps(m, cacheOf(codeSlot(priv), load), 13, m.X[6])
			// Its code too.
			m = atPc(s.town(priv, line{"addi", 5, 0, 0, 1}), great+townCode)
			slot := slotOf(impl.KdFetch, priv, great+townCode, impl.RamBase+townCode)
			s.goes(m, emptyCache(), 1, cacheOf(slot))
			s.goes(torn(m), cacheOf(slot), 1, cacheOf(slot))
		}
	}
}

// Two pages that have one place: what was kept of the one goes, of data and of code, and of one kind by another.
func TestTwoPagesOfOnePlace(t *testing.T) {
	s := stepperOf(t)
	for _, priv := range keptPrivs {
		home := homeOf(priv)
		for _, kind := range []int64{impl.KdLoad, impl.KdStore} {
			l, first := line{"ld", 5, 6, 0, 0}, dataSlot(kind, priv)
			if kind == impl.KdStore {
				l = line{"sd", 0, 6, 7, 0}
			}
			next := l
			next.a = 16
			second := slotOf(kind, priv, home+17*4096, impl.RamBase+townNext)
			m := s.town(priv, l, next, l, next)
			for n, slot := range []impl.Slot{first, second, first, second} {
				got := s.fast(m, emptyCache(), int64(n+1))
				if !slices.Equal(got.c.Slots, cacheOf(codeSlot(priv), slot).Slots) || slices.Contains(got.whats, 2) {
					t.Fatalf("%d steps: %v, %v", n+1, got.whats, got.c)
				}
			}
			s.traps(atPc(torn(m), home+4), cacheOf(codeSlot(priv), first), uint64(pageFaults[kind]), m.X[16])
		}
		// The load has the place of the fetch, which is walked for again.
		m := s.town(priv, line{"ld", 5, 9, 0, 0}, line{"ld", 5, 9, 0, 8}, line{"addi", 5, 0, 0, 1})
		load := slotOf(impl.KdLoad, priv, home+11*4096, impl.RamBase+townNext)
		for n, slot := range []impl.Slot{load, load, codeSlot(priv)} {
			if got := s.fast(m, emptyCache(), int64(n+1)); !slices.Equal(got.c.Slots, cacheOf(slot).Slots) {
				t.Fatalf("%d steps: %v", n+1, got.c)
			}
		}
		s.traps(atPc(torn(m), home+4), cacheOf(load), 12, home+4)
		// A jump to a page of code with the place of the first.
		m = s.town(priv, line{"jalr", 0, 17, 0, 4}, line{"addi", 5, 0, 0, 1})
		m.X[17] = home + 16*4096
		if got := s.fast(m, emptyCache(), 2); !slices.Equal(got.c.Slots, cacheOf(slotOf(impl.KdFetch, priv, home+16*4096, impl.RamBase+townCode)).Slots) || got.m.X[5] != 1 {
			t.Fatal(got.whats, got.c)
		}
	}
}

// A cache that is handed in is taken as it is: it may lead elsewhere than the tables, where these lead nowhere, and past the end of what they can tell.
func TestACacheThatIsHandedIn(t *testing.T) {
	s := stepperOf(t)
	for name, kinds := range keptBy {
		for _, priv := range keptPrivs {
			for _, page := range []uint64{0, 1, 2, 0x12345, 1 << 27, 1<<40 + 5, 1<<51 + 1, beyondPages - 1} {
				m := s.town(priv, reaching(name))
				m.X[6] = page*4096 + dataOff
				slots := []impl.Slot{codeSlot(priv)}
				for _, kind := range kinds {
					slots = append(slots, slotOf(kind, priv, m.X[6], impl.RamBase+townNext))
				}
				c := cacheOf(slots...)
				if slices.Contains(c.Slots, slots[0]) {
					out := s.goes(m, c, 1, c)
					if size := amoOrLoad(name); size > 0 && out.X[5] != impl.Widen(loaded(m.Ram, townNext+dataOff, size), 8*size) {
						t.Fatalf("%s by page %#x: %#x", name, page, out.X[5])
					}
				}
			}
			// The code, too.
			m := atPc(s.town(priv, line{"addi", 5, 0, 0, 9}), 0x7ffffffffffff000)
			c := cacheOf(slotOf(impl.KdFetch, priv, m.Pc, impl.RamBase+townCode))
			if out := s.goes(m, c, 1, c); out.X[5] != 9 {
				t.Fatal(out.X[5])
			}
		}
	}
}

// amoOrLoad is the size of an instruction that widens what it loads to Rd, 0 of others.
func amoOrLoad(name string) int64 {
	return map[string]int64{"lb": 1, "lh": 2, "lw": 4, "ld": 8, "lr.w": 4, "lr.d": 8, "amoadd.w": 4, "amomaxu.w": 4, "amoswap.d": 8, "amoxor.d": 8}[name]
}

// What is kept is still asked for Permits, at the privilege that counts, and for something being there.
func TestWhatIsKeptMayNotBe(t *testing.T) {
	s := stepperOf(t)
	for name, kinds := range keptBy {
		for _, priv := range keptPrivs {
			m := s.town(priv, reaching(name))
			for _, frame := range []uint64{0, 1, ramFrame - 1, ramFrame + 8, byteAddr / 4096, 1 << 44, beyondPages - 1} {
				s.traps(m, cacheOf(slotOf(impl.KdFetch, priv, m.Pc, frame*4096)), 1, m.Pc)
				if len(kinds) == 0 {
					continue
				}
				slots := []impl.Slot{codeSlot(priv)}
				for _, kind := range kinds {
					slots = append(slots, slotOf(kind, priv, m.X[6], frame*4096))
				}
				cause := uint64(7)
				if kinds[0] == impl.KdLoad {
					cause = 5
				}
				if name[0] == 's' && name[1] == 'c' {
					m := m
					m.Held, m.Hold = true, frame*4096+dataOff
					s.traps(m, cacheOf(slots...), cause, m.X[6])
				} else {
					s.traps(m, cacheOf(slots...), cause, m.X[6])
				}
			}
			// An entry of the protection bars it, though the tables are not asked.
			shut := m
			shut.Csrs = slices.Clone(m.Csrs)
			shut.Csrs[16], shut.Csrs[17], shut.Csrs[18] = 0x18+0x1f<<8, (impl.RamBase+townData+dataOff)/4, greatestAddr
			shut.Held, shut.Hold = true, impl.RamBase+townData+dataOff
			if len(kinds) > 0 {
				cause := uint64(7)
				if kinds[0] == impl.KdLoad {
					cause = 5
				}
				s.traps(shut, cacheOf(keptSlots(name, priv)...), cause, m.X[6])
			}
			shut.Csrs[17] = (impl.RamBase + townCode) / 4
			s.traps(shut, cacheOf(keptSlots(name, priv)...), 1, m.Pc)
		}
	}
}

// An address that is no multiple of the size comes ahead of what is kept.
func TestCrookedAddressesOfWhatIsKept(t *testing.T) {
	s := stepperOf(t)
	for name, kinds := range keptBy {
		if len(kinds) == 0 || strings.HasPrefix(name[1:], "b") {
			continue
		}
		for _, priv := range keptPrivs {
			m := s.town(priv, reaching(name))
			m.X[6]++
			cause := uint64(6)
			if kinds[0] == impl.KdLoad {
				cause = 4
			}
			s.traps(m, cacheOf(keptSlots(name, priv)...), cause, m.X[6])
			s.traps(m, emptyCache(), cause, m.X[6])
		}
	}
}

// What is kept may lead to devices.
func TestKeptDevices(t *testing.T) {
	s := stepperOf(t)
	for _, priv := range keptPrivs {
		for port, size := range portSizes {
			for name, kinds := range keptBy {
				if len(kinds) == 0 {
					continue
				}
				m := s.town(priv, reaching(name))
				m.X[6] = 0x7000 + port%4096
				m.Dev = ringing
				m.Csrs[9] = linesOf(m.Dev)
				m.Held, m.Hold = true, port
				slots := []impl.Slot{codeSlot(priv)}
				for _, kind := range kinds {
					slots = append(slots, slotOf(kind, priv, m.X[6], port))
				}
				got := s.fast(m, cacheOf(slots...), 1)
				own := map[byte]int64{'b': 1, 'h': 2, 'w': 4, 'd': 8}[strings.TrimSuffix(name, "u")[len(strings.TrimSuffix(name, "u"))-1]]
				if (got.whats[0] == 1) != (own == size) {
					t.Fatalf("%s at %d: %v", name, port, got.whats)
				}
				if got.whats[0] == 1 && name[:2] == "lr" && got.m.Hold != port {
					t.Fatalf("%s holds %#x", name, got.m.Hold)
				}
			}
		}
	}
}

// An lr holds, and an sc asks for, the physical address that is kept, though the tables would lead elsewhere.
func TestLrAndScByWhatIsKept(t *testing.T) {
	s := stepperOf(t)
	for _, priv := range keptPrivs {
		for _, end := range []string{"w", "d"} {
			m := s.town(priv, line{"lr." + end, 5, 6, 0, 0}, line{"sc." + end, 10, 6, 7, 0}, line{"sc." + end, 11, 6, 7, 0})
			elsewhere := func(kind int64, at uint64) impl.Slot { return slotOf(kind, priv, m.X[6], impl.RamBase+at) }
			both := cacheOf(codeSlot(priv), elsewhere(2, townNext), elsewhere(3, townNext))
			got := s.fast(m, both, 1)
			if got.m.Hold != impl.RamBase+townNext+dataOff || !got.m.Held {
				t.Fatalf("held %#x", got.m.Hold)
			}
			got = s.fast(m, both, 3)
			if got.m.X[10] != 0 || got.m.X[11] != 1 || loaded(got.m.Ram, townNext+dataOff, 4) != m.X[7]&0xffffffff || got.m.Held {
				t.Fatalf("%d, %d", got.m.X[10], got.m.X[11])
			}
			// The one is kept elsewhere than the other leads.
			for _, slots := range [][]impl.Slot{{elsewhere(2, townNext)}, {elsewhere(3, townNext)}, {elsewhere(2, townTrap), elsewhere(3, townNext)}} {
				got := s.fast(m, cacheOf(append(slots, codeSlot(priv))...), 3)
				if got.m.X[10] != 1 || got.m.X[11] != 1 || slices.Contains(got.whats, 2) {
					t.Fatalf("%d, %d, %v", got.m.X[10], got.m.X[11], got.whats)
				}
			}
		}
	}
}

// An amo loads where its load is kept, and stores where its store is.
func TestAmosByWhatIsKept(t *testing.T) {
	s := stepperOf(t)
	for _, priv := range keptPrivs {
		m := s.town(priv, line{"amoadd.d", 5, 6, 7, 0})
		c := cacheOf(codeSlot(priv), slotOf(2, priv, m.X[6], impl.RamBase+townData), slotOf(3, priv, m.X[6], impl.RamBase+townNext))
		got := s.goes(m, c, 1, c)
		old := loaded(m.Ram, townData+dataOff, 8)
		if got.X[5] != old || !bytes.Equal(got.Ram, stored(m.Ram, townNext+dataOff, 8, old+m.X[7])) {
			t.Errorf("%#x", got.X[5])
		}
		// The load is refused by what it leads to: its code is told as a store's.
		for _, slots := range [][]impl.Slot{
			{slotOf(2, priv, m.X[6], 0), slotOf(3, priv, m.X[6], impl.RamBase+townNext)}, {slotOf(2, priv, m.X[6], impl.RamBase+townData), slotOf(3, priv, m.X[6], 0)},
		} {
			s.traps(m, cacheOf(append(slots, codeSlot(priv))...), 7, m.X[6])
		}
		// The leaf lets nothing be loaded any more: 13 is told as 15.
		m.Ram = stored(m.Ram, leafAt(m.X[6]), 8, 0)
		s.traps(m, cacheOf(codeSlot(priv), slotOf(3, priv, m.X[6], impl.RamBase+townNext)), 15, m.X[6])
	}
}

// keepers are caches with something that a step might drop: at the machine's own page, at pages of data, and all about.
func keepers(priv int64) []impl.Cache {
	pages := onePageCache(0x12345)
	if priv == 3 {
		return []impl.Cache{pages, fullCache(2), halfCache(5)}
	}
	own := slices.Clone(pages.Slots)
	code := codeSlot(priv)
	own[(code.Page+shifts[keptFor{1, priv}])%16] = code
	return []impl.Cache{{Slots: own}, cacheOf(code, dataSlot(2, priv), dataSlot(3, 1-priv))}
}

// All is dropped by a write of satp, mstatus, sstatus, pmpcfg0 or a pmpaddr, by whichever Op, also where nothing changes by it; by no other register, and not where no write is asked for.
func TestWritesThatDropAll(t *testing.T) {
	s, dropped, stayed := stepperOf(t), 0, 0
	for _, number := range s.numbers {
		for _, priv := range []int64{1, 3} {
			for _, name := range csrNames {
				for _, a := range []int64{0, 6} {
					for _, rd := range []int64{0, 5} {
						for _, same := range []bool{false, true} {
							m := s.town(priv, line{name, rd, a, 0, number})
							m.X[6] = 0
							if same {
								m.X[6], _ = impl.ReadCsr(m.Csrs, number, 3)
							}
							writes := a != 0 || name == "csrrw" || name == "csrrwi"
							for _, c := range keepers(priv) {
								switch {
								case priv < lowestPriv(number) || writes && number == 3860:
									s.goes(m, c, 2, emptyCache())
								case writes && slices.Contains(droppers, number):
									s.goes(m, c, 1, emptyCache())
									dropped++
								default:
									s.goes(m, c, 1, c)
									stayed++
								}
							}
						}
					}
				}
			}
		}
	}
	if dropped < 500 || stayed < 1000 {
		t.Errorf("all was dropped %d times, and nothing %d times", dropped, stayed)
	}
}

// What is locked is not changed by a write, which drops all the same.
func TestWritesOfLockedRegistersDropAll(t *testing.T) {
	s := stepperOf(t)
	for _, number := range []int64{928, 944, 945, 946, 947} {
		m := s.town(3, line{"csrrw", 5, 6, 0, number})
		m.Csrs = slices.Clone(m.Csrs)
		m.Csrs[16], m.Csrs[17], m.Csrs[18], m.Csrs[19], m.Csrs[20] = 0x9f9f9f9f, greatestAddr, 5, 6, 7
		for _, c := range keepers(3) {
			out := s.goes(m, c, 1, emptyCache())
			if !slices.Equal(out.Csrs[16:21], m.Csrs[16:21]) {
				t.Fatalf("%#x", out.Csrs[16:21])
			}
		}
	}
	// satp stays as it was where its bits 60 to 63 would be others.
	m := s.town(1, line{"csrrw", 5, 7, 0, 384})
	m.X[7] = 9 << 60
	if out := s.goes(m, keepers(1)[1], 1, emptyCache()); out.Csrs[15] != m.Csrs[15] {
		t.Fatalf("%#x", out.Csrs[15])
	}
}

// A step that drops all drops what it has kept itself, too.
func TestWhatDropsAllKeepsNothing(t *testing.T) {
	s := stepperOf(t)
	for _, priv := range keptPrivs {
		for _, l := range []line{{"ecall", 0, 0, 0, 0}, {"ebreak", 0, 0, 0, 0}, {"ld", 5, 0, 0, 0}, {"sret", 0, 0, 0, 0}, {"csrrwi", 0, 2, 0, 320}, {"csrrwi", 0, 2, 0, 256}, {"sfence.vma", 0, 0, 0, 0}, {"mret", 0, 0, 0, 0}} {
			m := s.town(priv, l)
			got := s.fast(m, emptyCache(), 1)
			keeps := l.name == "csrrwi" && l.im == 320 && priv == 1
			if (got.c.Slots[(homeOf(priv)/4096+shifts[keptFor{1, priv}])%16] == codeSlot(priv)) != keeps || !keeps && !slices.Equal(got.c.Slots, emptyCache().Slots) {
				t.Errorf("%s at %d: %v", l.name, priv, got.c)
			}
			if got.m.Ram[leafAt(m.Pc)]&0x40 == 0 {
				t.Errorf("%s at %d: the leaf of the code is not marked", l.name, priv)
			}
		}
	}
}

// An exception drops all, whichever and wherever it goes.
func TestExceptionsDropAll(t *testing.T) {
	s := stepperOf(t)
	for _, priv := range privs {
		for _, handed := range []uint64{0, 0xb3ff} {
			for _, c := range keepers(priv) {
				for cause, l := range map[uint64]line{
					3: {"ebreak", 0, 0, 0, 0}, 2: {"csrrw", 5, 6, 0, 3860}, 4: {"ld", 5, 0, 0, 1}, 6: {"sd", 0, 0, 7, 1}, 5: {"ld", 5, 0, 0, 8}, 7: {"sd", 0, 0, 7, 8}, 0: {"jal", 5, 0, 0, 6}, 8: {"ecall", 0, 0, 0, 0},
				} {
					m := s.town(priv, l)
					m.Csrs = withWord(m.Csrs, 1, handed)
					// The first page leads to itself, where nothing is.
					m.Ram = stored(m.Ram, 0, 8, map[int64]uint64{0: 0x1f, 1: 0x0f}[priv])
					out := s.goes(m, c, 2, emptyCache())
					if cause == 8 {
						cause += uint64(priv)
					}
					if got := out.Csrs[placesOf[out.Priv][2]]; got != cause {
						t.Fatalf("%s at %d: cause %d", l.name, priv, got)
					}
				}
				// A word that is none, and a place from which nothing is fetched.
				s.goes(s.town(priv), c, 2, emptyCache())
				s.goes(atPc(s.town(priv), 0x10), c, 2, emptyCache())
			}
		}
	}
}

// An interrupt that is entered drops all, to whomever it goes.
func TestBellsDropAll(t *testing.T) {
	s := stepperOf(t)
	for n := uint64(1); n <= 11; n += 2 {
		for _, priv := range privs {
			for _, handed := range []uint64{0, 0x222} {
				m := s.town(priv, line{"addi", 5, 0, 0, 1})
				m.Dev = devFor(1 << n)
				m.Csrs = slices.Clone(m.Csrs)
				m.Csrs[0], m.Csrs[2], m.Csrs[3], m.Csrs[9] = 10, handed, 1<<n, 1<<n
				for _, c := range keepers(priv) {
					want, what := emptyCache(), int64(3)
					if priv == 3 && bit(handed, int(n)) == 1 {
						want, what = c, 1
					}
					s.goes(m, c, what, want)
				}
			}
		}
	}
}

// mret and sret drop all, legal and not.
func TestReturnsDropAll(t *testing.T) {
	s := stepperOf(t)
	for _, priv := range privs {
		for _, name := range []string{"mret", "sret"} {
			town := s.town(priv, line{name, 0, 0, 0, 0})
			for k, status := range statuses() {
				if k%5 > 0 {
					continue
				}
				m := town
				m.Csrs = withWord(m.Csrs, 0, status)
				what := int64(2)
				if priv == 3 || priv == 1 && name == "sret" {
					what = 1
				}
				for _, c := range keepers(priv) {
					s.goes(m, c, what, emptyCache())
				}
			}
		}
	}
}

// sfence.vma drops the page of A's word, of all kinds and privileges, all where A is 0; B changes nothing.
func TestFencesOfPages(t *testing.T) {
	s := stepperOf(t)
	for _, priv := range []int64{1, 3} {
		for _, c := range append(keepers(priv), keepers(3)...) {
			if priv == 1 {
				code := codeSlot(1)
				c = withSlot(c, int((code.Page+shifts[keptFor{1, 1}])%16), code)
			}
			for _, b := range []int64{0, 6, 7} {
				m := s.town(priv, line{"sfence.vma", 0, 0, b, 0})
				s.goes(m, c, 1, emptyCache())
				m = s.town(priv, line{"sfence.vma", 0, 6, b, 0})
				for _, addr := range append(pagesOf(c), m.Pc, 0, 4095, allOnes) {
					for _, low := range []uint64{0, 1, 0xfff} {
						m.X[6] = addr&^0xfff + low
						s.goes(m, c, 1, droppedOf(c, addr, false))
					}
				}
			}
		}
	}
	// A register other than x0 whose word is 0 names the page 0.
	c := cacheOf(slotOf(2, 1, 0, impl.RamBase), slotOf(2, 1, 4096, impl.RamBase), slotOf(3, 0, 4095, impl.RamBase))
	m := withX(s.town(3, line{"sfence.vma", 0, 31, 0, 0}), 31, 0)
	s.goes(m, c, 1, cacheOf(slotOf(2, 1, 4096, impl.RamBase)))
	// By a table, the page of the fence itself is kept and dropped.
	m = withX(s.town(1, line{"sfence.vma", 0, 6, 0, 0}), 6, homeOf(1)+0x123)
	s.goes(m, cacheOf(dataSlot(2, 1)), 1, cacheOf(dataSlot(2, 1)))
	m.X[6] += 4096
	s.goes(m, cacheOf(dataSlot(2, 1), dataSlot(3, 1), dataSlot(3, 0)), 1, cacheOf(codeSlot(1), dataSlot(3, 0)))
	// At privilege 0 it is an exception.
	m = s.town(0, line{"sfence.vma", 0, 6, 0, 0})
	s.traps(m, keepers(0)[0], 2, 0x12030073)
}

// No other instruction drops anything.
func TestWhatDropsNothing(t *testing.T) {
	s := stepperOf(t)
	for _, l := range s.ops {
		if l.form == "C" || l.name == "mret" || l.name == "sret" || l.name == "sfence.vma" || l.name == "ecall" || l.name == "ebreak" {
			continue
		}
		hasRd, hasA, hasB := l.has()
		for _, priv := range privs {
			if priv == 0 && l.name == "wfi" {
				continue
			}
			m := s.town(priv, line{l.name, map[bool]int64{true: 5}[hasRd], map[bool]int64{true: 6}[hasA], map[bool]int64{true: 7}[hasB], 0})
			if priv == 3 {
				m.X[6] = impl.RamBase + townData + dataOff
			}
			for _, c := range keepers(priv) {
				want := c
				touches := l.opcode == 3 || l.opcode == 35 || l.opcode == 47
				if touches && priv != 3 {
					// It may keep something, in the places of its page alone.
					want = s.keeping(c).steps(m, 1).c
					for place, slot := range want.Slots {
						if slot != c.Slots[place] && slot.Page != m.X[6]/4096 {
							t.Fatalf("%s at %d: %v, want %v", l.name, priv, want, c)
						}
					}
				}
				s.goes(m, c, 1, want)
			}
		}
	}
}

// plainRun holds that what Fast shows is what Steps shows, at each n up to one, while satp's bits 60 to 63 are 0; it tells how far that was.
func plainRun(t *testing.T, m impl.Machine, most int64) int64 {
	t.Helper()
	for n := range most + 1 {
		want, whats := impl.Steps(m, n)
		if want.Csrs[15]>>60 != 0 {
			return n
		}
		sameFast(t, m, impl.NewCache(), n, ran{want, emptyCache(), whats})
	}
	return most
}

// Promise 12: where no table is in play and none comes, both machines go alike, at each n.
func TestFastWithoutTables(t *testing.T) {
	s, d := stepperOf(t), dice(0x6c44198c4a475817)
	far, waits := 0, 0
	for range 60 {
		m := wandering(s, &d)
		m.Csrs[15] = d.below(1 << 60)
		if n := plainRun(t, m, 24); n == 24 {
			far++
		}
		got := s.fast(m, emptyCache(), 60)
		if slices.Contains(got.whats, 4) {
			waits++
		}
		for _, c := range []impl.Cache{fullCache(1), halfCache(2)} {
			s.fast(m, c, 20)
		}
	}
	if far < 30 || waits < 1 {
		t.Errorf("%d went far, %d waited", far, waits)
	}
	for _, m := range rightMachines(t) {
		if m.Csrs[15]>>60 == 0 {
			plainRun(t, m, 3)
		}
	}
}

// townInst is an instruction for the town: x6, x8, x9 and x16 stay where they point to, x10 to x15 are worked with.
func (s stepper) townInst(d *dice) uint64 {
	work := func() int64 { return 10 + int64(d.below(6)) }
	where := func() int64 { return []int64{6, 6, 8, 9, 16}[d.below(5)] }
	off := int64(d.below(5))*8 - 16
	pick := func(names ...string) string { return names[d.below(uint64(len(names)))] }
	switch d.below(24) {
	case 0, 1, 2, 3:
		return s.word(pick("lb", "lh", "lw", "ld", "lbu", "lhu", "lwu"), work(), where(), 0, off)
	case 4, 5, 6:
		return s.word(pick("sb", "sh", "sw", "sd"), 0, where(), work(), off)
	case 7:
		return s.word(pick("lr.w", "lr.d"), work(), where(), 0, 0)
	case 8:
		return s.word(pick("sc.w", "sc.d"), work(), where(), work(), 0)
	case 9, 10:
		return s.word(pick("amoadd.w", "amoswap.d", "amomin.w", "amoxor.d"), work(), where(), work(), 0)
	case 11:
		return s.word(pick("csrrs", "csrrc", "csrrw", "csrrwi", "csrrsi"), work(), int64(d.below(2))*work(), 0, []int64{320, 256, 322, 260, 324, 832, 836}[d.below(7)])
	case 12:
		return s.word(pick("csrrsi", "csrrci"), work(), int64(d.below(3)), 0, []int64{256, 384, 768, 928}[d.below(4)])
	case 13:
		return s.word("sfence.vma", 0, int64(d.below(2))*where(), 0, 0)
	case 14:
		return s.word(pick("ecall", "ebreak", "sret", "fence", "fence.i", "mret"), 0, 0, 0, 0)
	case 15, 16:
		return s.word(pick("beq", "bne", "bltu", "bge"), 0, work(), work(), int64(d.below(12))*4-12)
	case 17:
		return s.word("jal", work(), 0, 0, int64(d.below(12))*4-12)
	}
	return s.word(pick("add", "sub", "xor", "mulw", "sltu"), work(), work(), work(), 0)
}

// returning lays what passes over the instruction that met a trap, by the registers of its side.
func (s stepper) returning(ram []byte, at int, mepc, mscratch int64, name string) []byte {
	for k, l := range []line{{"csrrw", 5, 5, 0, mscratch}, {"csrrs", 5, 0, 0, mepc}, {"addi", 5, 5, 0, 4}, {"csrrw", 0, 5, 0, mepc}, {"csrrw", 5, 5, 0, mscratch}, {name, 0, 0, 0, 0}} {
		ram = stored(ram, at+4*k, 4, s.word(l.name, l.rd, l.a, l.b, l.im))
	}
	return ram
}

// busyTown is a town full of instructions, whose traps come back.
func (s stepper) busyTown(d *dice) impl.Machine {
	m := s.town(privs[d.below(2)])
	for at := townCode; at < townCode+200; at += 4 {
		m.Ram = stored(m.Ram, at, 4, s.townInst(d))
	}
	m.Ram = stored(m.Ram, townCode+200, 4, s.word("jal", 0, 0, 0, -200))
	m.Ram = s.returning(m.Ram, townTrap, 833, 832, "mret")
	m.Ram = s.returning(m.Ram, townTrap+64, 321, 320, "sret")
	m.Csrs[10] += 64
	m.Csrs[1] = d.below(1<<16) & 0xb3ff
	return m
}

// tablesStay tells whether the town's tables are as they were but for marks.
func tablesStay(was, is []byte) bool {
	for at := 0; at < 3*4096; at += 8 {
		old, entry := loaded(was, at, 8), loaded(is, at, 8)
		if old&^entry != 0 || (old^entry)&^0xc0 != 0 {
			return false
		}
	}
	return true
}

// Promise 12: with tables that nothing stores into, what Fast shows is what Steps shows, step by step, and as a whole.
func TestFastWithTablesThatStay(t *testing.T) {
	s, d := stepperOf(t), dice(0xa458fea3f4933d7e)
	hits, steps, whats := 0, 0, map[int64]int{}
	for range 80 {
		first := s.busyTown(&d)
		m, c, n := first, impl.NewCache(), int64(0)
		for range 120 {
			want, what := impl.Step(m)
			if !tablesStay(first.Ram, want.Ram) {
				break
			}
			k := s.keeping(c)
			left := k.steps(m, 1).c
			hits += k.hits
			sameFast(t, m, c, 1, ran{want, left, []int64{what}})
			if !impl.CacheOk(left) || !impl.MachineOk(want) {
				t.Fatal("not right")
			}
			whats[what]++
			m, c = want, left
			steps++
			n++
		}
		out, all := impl.Steps(first, n)
		sameFast(t, first, impl.NewCache(), n, ran{out, c, all})
		for _, part := range []int64{n / 2, n / 3, 1, 0} {
			out, all := impl.Steps(first, part)
			got, cache, told := impl.Fast(first, impl.NewCache(), part)
			if !impl.Same(got, out) || !slices.Equal(told, all) || !impl.CacheOk(cache) {
				t.Fatalf("Fast of %d", part)
			}
		}
	}
	if hits < 2000 || steps < 4000 || whats[1] < 3000 || whats[2] < 200 {
		t.Errorf("%d found, %d steps, %v", hits, steps, whats)
	}
}

// Fast of n and then of k, with the cache of the first, is Fast of n + k, where none waits.
func TestFastAddsUp(t *testing.T) {
	s, d := stepperOf(t), dice(0x0d95748f728eb658)
	for range 100 {
		m, c := s.busyTown(&d), rightCaches()[d.below(31)]
		n, k := int64(d.below(50)), int64(d.below(50))
		both := s.fast(m, c, n+k)
		first, kept, told := impl.Fast(m, c, n)
		second, left, more := impl.Fast(first, kept, k)
		if slices.Contains(both.whats, 4) {
			continue
		}
		if !sameMachine(second, both.m) || !slices.Equal(left.Slots, both.c.Slots) || !slices.Equal(slices.Concat(told, more), both.whats) {
			t.Fatalf("Fast of %d and then of %d", n, k)
		}
	}
}

// someCache is one with slots that lead from the addresses of mixedAddr into the memory, to devices and elsewhere.
func someCache(d *dice, c impl.Cache) impl.Cache {
	frames := []uint64{ramFrame, ramFrame + 1, ramFrame + 2, ramFrame + 3, ramFrame + 4, softAddr / 4096, cmpAddr / 4096, byteAddr / 4096, 0}
	for range d.below(6) {
		f := allFor[d.below(6)]
		c = keptIn(c, f, mixedAddr(d), frames[d.below(9)]*4096)
	}
	return c
}

// All that can happen, in any order, with what is kept and what is handed in.
func TestMixedRuns(t *testing.T) {
	s, d, guards := stepperOf(t), dice(0x8e3c5b2f718bcd58), guardedLists()
	guards = guards[len(guards)-3*256:] // those about the memory's beginning
	hits, walks, whats, ops := 0, 0, map[int64]int{}, map[int64]int{}
	for range 40 {
		m, c := mixedMachine(&d), emptyCache()
		m.Csrs[4], m.Csrs[10] = impl.RamBase+0x100, impl.RamBase+0x200
		for range 200 {
			word, i := s.mixedInst(&d)
			if d.below(2) == 0 {
				m.Priv, m.Csrs = privs[d.below(2)], withWord(m.Csrs, 15, m.Csrs[15]|8<<60)
			}
			m = poked(&d, m, guards, word, i)
			if d.below(4) == 0 {
				c = someCache(&d, c)
			}
			if f := (keptFor{1, m.Priv}); m.Priv != 3 && d.below(2) == 0 {
				// The fetch is by what is kept, and the word where that leads.
				c = keptIn(c, f, m.Pc, impl.RamBase+0x1000)
				m.Ram = stored(m.Ram, 0x1000+int(m.Pc%4096), 4, word)
			}
			k := s.keeping(c)
			k.steps(m, 1)
			hits, walks = hits+k.hits, walks+k.walks
			got := s.fast(m, c, 1)
			if whats[got.whats[0]]++; got.whats[0] == 1 {
				ops[i.Op]++
			}
			if d.below(8) == 0 {
				s.fast(m, c, int64(d.below(12)))
			}
			m, c, _ = impl.Fast(m, c, 1)
		}
	}
	if hits < 1500 || walks < 300 || whats[1] < 2000 || whats[2] < 1000 || whats[3] < 50 || whats[4] < 20 || len(ops) < 90 {
		t.Errorf("%d found, %d walked for, %v, %d Ops", hits, walks, whats, len(ops))
	}
}

// fewChanges has the machine with one thing other about it each; all of them are right.
func fewChanges(m impl.Machine) []impl.Machine {
	var out []impl.Machine
	with := func(change func(m *impl.Machine)) {
		other := machineCopy(m)
		change(&other)
		other.Csrs[9] = other.Csrs[9]&^0x888 | linesOf(other.Dev)
		out = append(out, other)
	}
	with(func(m *impl.Machine) { m.Pc ^= 4 })
	with(func(m *impl.Machine) { m.Pc ^= 1 << 63 })
	for k := 1; k < 32; k++ {
		with(func(m *impl.Machine) { m.X[k] ^= 1 << (k * 2) })
	}
	for _, priv := range privs {
		if priv != m.Priv {
			with(func(m *impl.Machine) { m.Priv = priv })
		}
	}
	for k := range 22 {
		bits := map[int]uint64{0: 2, 1: 1, 2: 2, 3: 2, 9: 2, 15: 1, 16: 4, 6: 4, 12: 4}
		with(func(m *impl.Machine) { m.Csrs[k] ^= max(bits[k], 1) })
	}
	for _, at := range []int{0, 1, len(m.Ram) / 2, len(m.Ram) - 1} {
		with(func(m *impl.Machine) { m.Ram[at] ^= 0x80 })
	}
	with(func(m *impl.Machine) { m.Ram = append(m.Ram, make([]byte, 4096)...) })
	with(func(m *impl.Machine) { m.Time += 2 })
	with(func(m *impl.Machine) { m.Cmp -= 2 })
	with(func(m *impl.Machine) { m.Soft = !m.Soft })
	with(func(m *impl.Machine) { m.In = append(m.In, 0) })
	with(func(m *impl.Machine) { m.In[0] ^= 1 })
	with(func(m *impl.Machine) { m.In = m.In[1:] })
	with(func(m *impl.Machine) { m.Out = append(m.Out, 0) })
	with(func(m *impl.Machine) { m.Out[len(m.Out)-1] ^= 1 })
	with(func(m *impl.Machine) { m.Ier = 1 - m.Ier })
	with(func(m *impl.Machine) { m.Hold ^= 8 })
	with(func(m *impl.Machine) { m.Hold, m.Held = 0, false })
	with(func(m *impl.Machine) { m.Wait = !m.Wait })
	return out
}

// wantSame asks both ways. Promise 15: the arguments and their spare room stay.
func wantSame(t *testing.T, a, b impl.Machine, want bool) {
	t.Helper()
	givenA, roomA := spacious(a)
	givenB, roomB := spacious(b)
	wasA, wasB := roomA.copied(), roomB.copied()
	if impl.Same(givenA, givenB) != want || impl.Same(givenB, givenA) != want {
		t.Fatalf("Same of %s\nand %s\nis not %v", showMachine(a), showMachine(b), want)
	}
	if !roomA.same(wasA) || !roomB.same(wasB) {
		t.Fatal("Same has written into an argument")
	}
}

func TestSameByOneThing(t *testing.T) {
	base := machineOf(filled(8192), plain(), 1, impl.Dev{Time: 9, Cmp: 30, In: []byte{1, 2}, Out: []byte{3, 4, 5}, Ier: 0})
	base.Held, base.Hold = true, impl.RamBase+8
	all := append(fewChanges(base), base)
	if len(all) < 70 {
		t.Fatalf("%d machines", len(all))
	}
	for k, a := range all {
		if !impl.MachineOk(a) {
			t.Fatalf("machine %d is not right: %s", k, showMachine(a))
		}
		wantSame(t, a, a, true)
		wantSame(t, a, machineCopy(a), true)
		wantSame(t, a, base, k == len(all)-1)
		for n, b := range all {
			if sameMachine(a, b) != (k == n) || impl.Same(a, b) != (k == n) {
				t.Fatalf("machines %d and %d", k, n)
			}
		}
	}
	// What mip does not tell: Held alone, as what is held may be 0, and Ier alone, where In is empty.
	a, b := base, base
	a.Hold, b.Hold, b.Held = 0, 0, false
	wantSame(t, a, b, false)
	a, b = base, base
	a.In, b.In, b.Ier = nil, nil, 1
	wantSame(t, a, b, false)
}

func TestSameOfMany(t *testing.T) {
	all := rightMachines(t)
	for k, a := range all {
		b := all[k*7%len(all)]
		wantSame(t, a, b, sameMachine(a, b))
		wantSame(t, a, machineCopy(a), true)
	}
	// Nothing and an empty list are the same.
	a, b := calm(3), calm(3)
	a.In, a.Out, b.In, b.Out = nil, []byte{}, []byte{}, nil
	wantSame(t, a, b, true)
}

// Machines that are not right are the same as none, not even as themselves.
func TestSameOfMachinesThatAreNotRight(t *testing.T) {
	right := machineOf(filled(4096), fullCsrs(), 3, ringing)
	wrong := slices.Concat(broken(t), crossed(t))
	for k, m := range wrong {
		wantSame(t, m, m, false)
		wantSame(t, m, machineCopy(m), false)
		wantSame(t, m, right, false)
		wantSame(t, m, wrong[k*5%len(wrong)], false)
	}
}

// played is a second reading of Play, for what is right.
func (s stepper) played(m impl.Machine, events []impl.Event) (impl.Machine, int64) {
	count := int64(0)
	for _, e := range events {
		switch {
		case e.N < 0:
		case e.Kind == 1 && e.N <= 300:
			out := s.keeping(emptyCache())
			out.s.lead = led
			got := out.steps(m, e.N)
			m = got.m
			for _, what := range got.whats {
				if what == 1 || what == 2 || what == 3 {
					count++
				}
			}
		case e.Kind == 2:
			m.Time += uint64(e.N)
		case e.Kind == 3 && len(m.In) < 16:
			m.In = append(slices.Clone(m.In), byte(e.N%256))
		}
		m.Csrs = withWord(m.Csrs, 9, m.Csrs[9]&^0x888|linesOf(m.Dev))
	}
	return m, count
}

// samePlay holds Play against what it must come to. Promise 15: the events and their spare room stay, too.
func samePlay(t *testing.T, m impl.Machine, events []impl.Event, want impl.Machine, count int64) {
	t.Helper()
	spare := impl.Event{Kind: 2, N: 77}
	room := slices.Concat([]impl.Event{spare}, events, []impl.Event{spare, spare, spare})
	was := slices.Clone(room)
	wantMachine(t, m, want, func(m impl.Machine) impl.Machine {
		t.Helper()
		out, n := impl.Play(m, room[1:1+len(events)])
		if n != count {
			t.Fatalf("Play of %v: %d, want %d", events, n, count)
		}
		return out
	})
	if !slices.Equal(room, was) {
		t.Fatal("Play has written into the events")
	}
}

// play holds Play against the second reading.
func (s stepper) play(m impl.Machine, events ...impl.Event) (impl.Machine, int64) {
	s.t.Helper()
	want, count := s.played(m, events)
	samePlay(s.t, m, events, want, count)
	if !impl.MachineOk(want) {
		s.t.Fatalf("behind %v: %s", events, showMachine(want))
	}
	return want, count
}

func event(kind, n int64) impl.Event {
	return impl.Event{Kind: kind, N: n}
}

func TestPlayRefuses(t *testing.T) {
	s := stepperOf(t)
	some := []impl.Event{event(3, 65), event(1, 2), event(2, 5)}
	for k, m := range slices.Concat(broken(t), crossed(t)) {
		samePlay(t, m, some[:k%4], impl.Machine{}, 0)
		if k%16 == 0 {
			samePlay(t, m, slices.Repeat(some, 34), impl.Machine{}, 0)
		}
	}
	m := s.program(calm(1), [5]int64{3, 0, 0, 0, 0})
	for _, n := range []int{101, 102, 200, 256, 256 + 3, 65536} {
		for _, e := range []impl.Event{event(1, 1), event(2, 1), event(3, 1), event(0, 0), event(1, -1)} {
			samePlay(t, m, slices.Repeat([]impl.Event{e}, n), impl.Machine{}, 0)
		}
	}
}

// As many events as there may be are all met, in their order.
func TestPlayOfAllEvents(t *testing.T) {
	s := stepperOf(t)
	m := s.program(calm(1), [5]int64{22, 10, 10, 0, 1}, [5]int64{3, 0, 0, 0, -4})
	m.Cmp = allOnes
	for _, n := range []int{0, 1, 2, 99, 100} {
		events := slices.Repeat([]impl.Event{event(1, 3), event(2, 5)}, 50)[:n]
		out, count := s.play(m, events...)
		if runs, ticks := uint64(n+1)/2, uint64(n/2); count != int64(3*runs) || out.Time != m.Time+5*ticks || out.X[10] != m.X[10]+(3*runs+1)/2 {
			t.Errorf("%d events: %d, %d, %d", n, count, out.Time, out.X[10])
		}
	}
	var events []impl.Event
	for k := range int64(100) {
		events = append(events, event(3, 200+k))
	}
	out, count := s.play(m, events...)
	if count != 0 || len(out.In) != 16 || out.In[0] != 200 || out.In[15] != 215 {
		t.Error(count, out.In)
	}
}

func TestPlayOfRuns(t *testing.T) {
	s := stepperOf(t)
	for _, priv := range privs {
		m := s.program(calm(priv), [5]int64{22, 10, 10, 0, 1}, [5]int64{3, 0, 0, 0, -4})
		for _, n := range []int64{0, 1, 2, 3, 255, 256, 299, 300} {
			out, count := s.play(m, event(1, n))
			if count != n || out.X[10] != m.X[10]+uint64(n+1)/2 || out.Csrs[21] != 21+uint64(n) {
				t.Errorf("EvRun of %d: %d, %d", n, count, out.X[10])
			}
			want, _ := impl.Steps(m, n)
			samePlay(t, m, []impl.Event{event(1, n)}, want, n)
		}
		for _, n := range noRuns {
			samePlay(t, m, []impl.Event{event(1, n)}, m, 0)
			// What is left out leaves the others in.
			want, _ := impl.Steps(m, 5)
			samePlay(t, m, []impl.Event{event(1, 2), event(1, n), event(1, 3)}, want, 5)
		}
	}
}

func TestPlayOfTime(t *testing.T) {
	s := stepperOf(t)
	for _, time := range []uint64{0, 6, 1 << 62, greatestSigned, leastSigned, allOnes - 1, allOnes} {
		for _, cmp := range []uint64{0, 7, 1 << 63, allOnes} {
			m := calm(3)
			m.Dev = impl.Dev{Time: time, Cmp: cmp}
			m.Csrs = withWord(m.Csrs, 9, 0x20|linesOf(m.Dev))
			for _, n := range []int64{0, 1, 2, 255, 256, 301, 1 << 32, math.MaxInt64 - 1, math.MaxInt64} {
				want := m
				want.Time = time + uint64(n)
				want.Csrs = withWord(m.Csrs, 9, 0x20)
				if want.Time >= cmp {
					want.Csrs[9] = 0xa0
				}
				samePlay(t, m, []impl.Event{event(2, n)}, want, 0)
				s.play(m, event(2, n), event(2, n), event(2, n))
			}
			for _, n := range []int64{-1, -2, -256, -1 << 32, math.MinInt64 + 1, math.MinInt64} {
				samePlay(t, m, []impl.Event{event(2, n)}, m, 0)
			}
		}
	}
}

func TestPlayOfBytes(t *testing.T) {
	s := stepperOf(t)
	for _, in := range []int{0, 1, 14, 15, 16} {
		for _, ier := range []int64{0, 1} {
			m := calm(3)
			m.Dev = impl.Dev{Time: 6, Cmp: 7, In: filled(in), Out: []byte{1, 2}, Ier: ier}
			m.Csrs = withWord(m.Csrs, 9, 0x200|linesOf(m.Dev))
			for n, b := range map[int64]byte{0: 0, 1: 1, 65: 65, 127: 127, 128: 128, 255: 255, 256: 0, 257: 1, 300: 44, 301: 45, 511: 255, 512: 0, 1 << 32: 0, 1<<32 + 7: 7, math.MaxInt64: 255, math.MaxInt64 - 1: 254} {
				want := m
				if in < 16 {
					want.In = append(slices.Clone(m.In), b)
				}
				want.Csrs = withWord(m.Csrs, 9, 0x200+uint64(ier)<<11)
				samePlay(t, m, []impl.Event{event(3, n)}, want, 0)
				s.play(m, event(3, n), event(3, n+1-n%2*2), event(3, 7))
			}
			for _, n := range []int64{-1, -2, -255, -256, -257, -1 << 32, math.MinInt64, math.MinInt64 + 65} {
				samePlay(t, m, []impl.Event{event(3, n)}, m, 0)
			}
		}
	}
}

// Events of no kind are left out.
func TestPlayOfNoKind(t *testing.T) {
	m := calm(1)
	m.Dev = ringing
	m.Csrs = withWord(m.Csrs, 9, linesOf(m.Dev))
	samePlay(t, m, nil, m, 0)
	for _, kind := range noKinds {
		for _, n := range []int64{0, 1, 2, 300, 301, -1, math.MaxInt64, math.MinInt64} {
			samePlay(t, m, []impl.Event{event(kind, n)}, m, 0)
			want, _ := impl.Steps(m, 3)
			samePlay(t, m, []impl.Event{event(1, 1), event(kind, n), event(1, 2)}, want, 3)
		}
	}
	samePlay(t, m, slices.Repeat([]impl.Event{event(0, 0)}, 100), m, 0)
}

// What is counted: what was done, exceptions and interrupts, but no wait.
func TestWhatPlayCounts(t *testing.T) {
	s := stepperOf(t)
	m := s.program(calm(3), [5]int64{22, 5, 0, 0, 1}, [5]int64{97, 0, 0, 0, 0}, [5]int64{94, 0, 0, 0, 0}, [5]int64{22, 5, 0, 0, 2})
	m.Csrs = withWord(withWord(m.Csrs, 3, 0x80), 0, 8)
	m.Ram = stored(m.Ram, 0x41c, 4, s.word("mret", 0, 0, 0, 0))
	m.Ram = stored(m.Ram, 0x400, 4, s.word("addi", 6, 0, 0, 3))
	for _, x := range []struct {
		events []impl.Event
		count  int64
	}{
		{[]impl.Event{event(1, 1)}, 1}, {[]impl.Event{event(1, 2)}, 2}, {[]impl.Event{event(1, 3)}, 2}, {[]impl.Event{event(1, 300)}, 2},
		{[]impl.Event{event(1, 300), event(1, 300), event(1, 1)}, 2}, {[]impl.Event{event(1, 300), event(2, 0), event(1, 5)}, 2},
		{[]impl.Event{event(1, 300), event(2, 1), event(1, 1)}, 3}, {[]impl.Event{event(1, 3), event(2, 1), event(1, 2)}, 4},
		{[]impl.Event{event(1, 1), event(2, 1), event(1, 1)}, 2}, {[]impl.Event{event(2, 1), event(1, 0), event(1, 1)}, 1},
	} {
		if _, count := s.play(m, x.events...); count != x.count {
			t.Errorf("%v: %d, want %d", x.events, count, x.count)
		}
	}
	// An exception counts, too.
	m = s.program(calm(3), [5]int64{94, 0, 0, 0, 0})
	m.Ram = stored(m.Ram, 0x400, 4, s.word("jal", 0, 0, 0, 0))
	out, count := s.play(m, event(1, 1), event(1, 2))
	if cause, pc, _ := impl.Told(out); count != 3 || cause != 3 || pc != calmPc || out.Csrs[21] != 23 {
		t.Error(count, cause, pc)
	}
	m.Wait = true
	samePlay(t, m, []impl.Event{event(1, 300), event(1, 1)}, m, 0)
}

// A byte that comes is heard by the run behind it, and one that is sent is told.
func TestPlayByHand(t *testing.T) {
	s := stepperOf(t)
	// A user's echo: lbu, sb, and round again.
	m := s.program(calm(3), [5]int64{15, 5, 6, 0, 0}, [5]int64{18, 0, 6, 5, 0}, [5]int64{3, 0, 0, 0, -8})
	m.X[6] = byteAddr
	out, count := s.play(m, event(3, 72), event(1, 3), event(3, 256+105), event(1, 3))
	if count != 6 || !bytes.Equal(impl.Output(out), []byte("Hi")) || len(out.In) != 0 {
		t.Error(count, impl.Output(out))
	}
	// The line rings where Ier says so, and is told in mip behind the event itself.
	m.Ier = 1
	if out, _ := s.play(m, event(3, 1)); out.Csrs[9] != 0x800 {
		t.Errorf("%#x", out.Csrs[9])
	}
	m.Csrs = withWord(withWord(m.Csrs, 3, 0x800), 0, 8)
	out, count = s.play(m, event(1, 4), event(3, 9), event(1, 1))
	if cause, pc, _ := impl.Told(out); count != 5 || cause != 111 || pc != calmPc+4 {
		t.Error(count, cause, pc)
	}
	if out, _ := s.play(m, event(2, 1)); out.Csrs[9] != 0x80 || out.Time != 7 {
		t.Errorf("%#x, %d", out.Csrs[9], out.Time)
	}
}

func TestMixedPlays(t *testing.T) {
	s, d, counts := stepperOf(t), dice(0x7b54a41dc25a59b5), 0
	for range 150 {
		m := wandering(s, &d)
		m.Csrs[3] = d.below(4096) & 0xaaa
		var events []impl.Event
		for range d.below(12) {
			e := event(int64(d.below(5)), int64(d.below(12))-1)
			if d.below(8) == 0 {
				e.N = []int64{300, 301, 256, math.MaxInt64, math.MinInt64}[d.below(5)]
			}
			events = append(events, e)
		}
		_, count := s.play(m, events...)
		counts += int(count)
	}
	if counts < 1500 {
		t.Errorf("%d steps", counts)
	}
}

func wantOutput(t *testing.T, m impl.Machine, want []byte) {
	t.Helper()
	given, all := spacious(m)
	was := all.copied()
	got := impl.Output(given)
	if !bytes.Equal(got, want) || !all.same(was) {
		t.Fatalf("Output of %s: %v, want %v", showMachine(m), got, want)
	}
	turnAll(got)
	if !all.same(was) {
		t.Fatal("Output shares memory")
	}
}

func TestOutput(t *testing.T) {
	for _, n := range []int{0, 1, 2, 255, 256, 4095, 4096} {
		m := calm(3)
		m.Out, m.In = filled(n), []byte{9, 8}
		wantOutput(t, m, filled(n))
	}
	for _, m := range rightMachines(t) {
		wantOutput(t, m, m.Out)
	}
	for _, m := range slices.Concat(broken(t), crossed(t)) {
		wantOutput(t, m, nil)
	}
}

// Promise 15: the lists of an argument may be pieces of one, side by side or one upon the other.
func TestRunsOfMachinesThatShareARoom(t *testing.T) {
	s := stepperOf(t)
	for _, x := range []struct{ x, csrs, register int }{{0, 32, 5}, {32, 0, 5}, {0, 10, 15}, {10, 0, 1}, {0, 0, 5}} {
		r := int64(x.register)
		for _, l := range []line{{"addi", 7, r, 0, 1}, {"sd", 0, r, r, 0}, {"amoadd.w", 7, r, r, 0}, {"csrrw", 7, 0, 0, 2818}, {"ecall", 0, 0, 0, 0}, {"wfi", 0, 0, 0, 0}} {
			words, room := make([]uint64, 64), filled(3*4096)
			words[x.x+x.register] = impl.RamBase + 4096 + 8
			copy(room[16:], stored(make([]byte, 4), 0, 4, s.word(l.name, l.rd, l.a, l.b, l.im)))
			m := impl.Machine{
				Pc: impl.RamBase + 16, X: words[x.x : x.x+32], Csrs: words[x.csrs : x.csrs+22], Priv: 3,
				Ram: room[:8192], Dev: impl.Dev{Cmp: 1, In: room[4096:4112], Out: room[4100:9000][:4096]},
			}
			given, was := rooms{x: words, ram: room}, rooms{x: words, ram: room}.copied()
			for _, n := range []int64{0, 1, 2} {
				want := s.keeping(emptyCache()).steps(m, n)
				out, _, whats := impl.Fast(m, impl.NewCache(), n)
				if !sameMachine(out, want.m) || !slices.Equal(whats, want.whats) {
					t.Fatalf("%s: Fast of %d: %v", l.name, n, whats)
				}
				checkNew(t, out, machineCopy(want.m), given, was)
				played, _ := impl.Play(m, []impl.Event{event(1, n)})
				if !sameMachine(played, want.m) {
					t.Fatalf("%s: Play of %d", l.name, n)
				}
				checkNew(t, played, machineCopy(want.m), given, was)
			}
			played, _ := impl.Play(m, nil)
			if !impl.Same(played, m) {
				t.Fatalf("%s: Play of nothing", l.name)
			}
			checkNew(t, played, machineCopy(m), given, was)
			turnAll(impl.Output(m))
			if !given.same(was) {
				t.Fatal("Output shares memory")
			}
		}
	}
}

// settled waits for goroutines that have done their work to be gone, and tells how many there are then.
func settled(before int) int {
	for range 2000 {
		if runtime.NumGoroutine() <= before {
			break
		}
		time.Sleep(time.Millisecond)
	}
	return runtime.NumGoroutine()
}

// Promise 15: no argument makes one of them panic, and no call leaves a goroutine behind.
func TestRunsAnswerAtEveryArgument(t *testing.T) {
	all := slices.Concat(rightMachines(t), broken(t))
	caches := append(rightCaches(), someWrongCaches()...)
	numbers := []int64{0, 1, 2, 7, -1, 301, math.MaxInt64, math.MinInt64}
	d, s := dice(0x9c30d5392af26013), stepperOf(t)
	before := settled(runtime.NumGoroutine())
	for k := range 4000 {
		m, n := all[k*7%len(all)], numbers[k%len(numbers)]
		if impl.RamOk(m.Ram) && k%2 == 0 {
			word, _ := s.mixedInst(&d)
			m.Pc = impl.RamBase
			m.Ram = stored(m.Ram, 0, 4, word)
		}
		c := caches[k*11%len(caches)]
		out, cache, whats := impl.Fast(m, c, n)
		if right := impl.MachineOk(m) && impl.CacheOk(c) && n >= 0 && n <= 300; right != impl.MachineOk(out) || right != impl.CacheOk(cache) || !right && len(whats) > 0 {
			t.Fatalf("Fast of %s\nwith %v, %d: %s, %v, %v", showMachine(m), c, n, showMachine(out), cache, whats)
		}
		other, count := impl.Play(m, []impl.Event{event(int64(k%6)-1, n), event(n, 3)})
		if impl.MachineOk(other) != impl.MachineOk(m) || count < 0 {
			t.Fatalf("Play of %s: %d", showMachine(m), count)
		}
		impl.Same(m, all[k*3%len(all)])
		impl.Output(m)
	}
	if after := settled(before); after != before {
		t.Fatalf("%d goroutines ahead of the calls, %d behind them", before, after)
	}
}
