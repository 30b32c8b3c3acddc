package attic

import (
	"math"
	"testing"
)

func (s *state) plainDigest() uint64 {
	var accounts []uint64
	for _, a := range s {
		accounts = append(accounts, plainAccount(a.balance, a.program, a.slots))
	}
	return plainTree(accounts)
}

// Each single change of a state is in its digest, as the other reading has it,
// and in its differences from what it was.
func TestDigestOfChangedStates(t *testing.T) {
	seen := map[uint64]string{}
	hold := func(s state, differs string) {
		t.Helper()
		got, first := s.digest(), firstState()
		if want := s.plainDigest(); got != want {
			t.Errorf("digest %x, want %x: differs in %s", got, want, differs)
		}
		if other, there := seen[got]; there {
			t.Errorf("one digest of the states that differ in %s and in %s", other, differs)
		}
		seen[got] = differs
		if found := list(differences(&s, &first)); found != differs {
			t.Errorf("differences %q, want %q", found, differs)
		}
		if found := list(differences(&first, &s)); found != differs {
			t.Errorf("differences the other way %q, want %q", found, differs)
		}
	}
	hold(firstState(), "-")
	for i := range len(accountNames) {
		name := accountNames[i : i+1]
		s := firstState()
		s[i].balance = math.MaxUint64
		hold(s, name+"$")
		s = firstState()
		s[i].program = "kd*r"
		hold(s, name+"{")
		for slot := range len(slotNames) {
			s = firstState()
			s[i].slots[slot] = 1 << 56
			hold(s, name+slotNames[slot:slot+1])
		}
	}
	s := firstState()
	s[1] = account{balance: 7, program: "r", slots: [16]uint64{0: 1, 9: 2, 10: 3, 15: math.MaxUint64}}
	s[6].slots[3] = 0x0102030405060708
	hold(s, "b$,b{,b0,b9,ba,bf,g3")
}

func TestSlotAnswers(t *testing.T) {
	s := firstState()
	s[1].slots[15] = math.MaxUint64
	s[7].slots[0] = 10
	a := &Attic{workers: 2, shelf: shelf{{ledger: ledger{state: s}}}}
	wantAnswer(t, a, "g0:bf;gh:h0;gh:b0;gh:hf;gh:af;i0:a/;g1:bf;d0:1", "18446744073709551615;10;0;0;0;1;18446744073709551615;a$")
}

func TestDigestOfVersions(t *testing.T) {
	onEach(t, func(t *testing.T, a *Attic) {
		model := newPlain()
		for _, batch := range []string{
			"r0;rh;i0:a/b>c=5;r1;rh;r0",
			"i0:h/b{kd*r},f{0},f{ff};r2;rh;r1;i1:h/b{" + many("+", "", 40) + "};r3;rh",
			"i3:a/b{};r4;i4:a/b>b=0;r5",
		} {
			wantAnswer(t, a, batch, model.ask(batch))
		}
	})
}

func TestEqualStatesHaveEqualDigests(t *testing.T) {
	onEach(t, func(t *testing.T, a *Attic) {
		// By two ways to one state, at one height and at two.
		wantAnswer(t, a, "i0:a/;i0:b/;i1:b/;i2:a/;d3:4;i0:a/;d1:5", "1;2;3;4;-;5;-")
		wantAnswer(t, a, "i0:c/c{k},c{};i0:c/c>c=0;i7:d/d>c=0;i6:d/d>c=0;d6:7;d8:9", "6;7;8;9;-;-")
		wantAnswer(t, a, "i0:a/b{r};i0:a/b{k};d10:11", "10;11;b{")
		for _, pair := range [][2]string{{"r3", "r4"}, {"r1", "r5"}, {"r6", "r7"}, {"r8", "r9"}} {
			one, _ := a.Ask(pair[0])
			wantAnswer(t, a, pair[1], one)
		}
		one, _ := a.Ask("r10")
		if other, _ := a.Ask("r11"); one == other {
			t.Errorf("one digest %q of states that differ", one)
		}
	})
}

func TestHexadecimal(t *testing.T) {
	for n, want := range map[uint64]string{0: "0000000000000000", 0xabc: "0000000000000abc", math.MaxUint64: "ffffffffffffffff", 1 << 60: "1000000000000000", 1 << 59: "0800000000000000"} {
		if got := hexadecimal(n); got != want {
			t.Errorf("hexadecimal(%d) = %q, want %q", n, got, want)
		}
	}
}
