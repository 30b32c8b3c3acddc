package attic

import (
	"fmt"
	"slices"
	"strings"
	"testing"
)

const allSteps = "0123456789+-*/<=dxpkcybltjveorf"

// asked is a question about a call, by its terms: (n,k) for what it would do,
// (k) for the least gas.
type asked struct{ terms, want string }

// wantCalls asks about calls of b by c, where accounts have set programs.
func wantCalls(t *testing.T, programs string, all ...asked) {
	t.Helper()
	a := newAttic(t, 2)
	wantAnswer(t, a, "i0:h/"+programs, "1")
	for _, q := range all {
		question := "c1:c>b" + q.terms
		if !strings.Contains(q.terms, ",") {
			question = "m1:c>b" + q.terms
		}
		if got, e := a.Ask(question); got != q.want || e != OK {
			t.Errorf("%s: %s is answered %q, %d, want %q", programs, question, got, e, q.want)
		}
	}
}

// Each step: with all gas, with just enough, and with one less. The value is
// that of the same program with r behind it, where the step leaves one.
func TestStepCosts(t *testing.T) {
	for _, c := range []struct {
		program string
		cost    int // of the whole
		value   string
	}{
		{"0", 1, "0"}, {"1", 1, "1"}, {"2", 1, "2"}, {"3", 1, "3"}, {"4", 1, "4"},
		{"5", 1, "5"}, {"6", 1, "6"}, {"7", 1, "7"}, {"8", 1, "8"}, {"9", 1, "9"},
		{"72+", 3, "9"}, {"72-", 3, "5"}, {"72*", 4, "14"}, {"72/", 4, "3"},
		{"27-", 3, "18446744073709551611"}, {"27/", 4, "0"}, {"70/", 4, "0"}, {"00/", 4, "0"}, {"88/", 4, "1"}, {"07/", 4, "0"},
		{"27<", 3, "1"}, {"72<", 3, "0"}, {"77<", 3, "0"}, {"27=", 3, "0"}, {"72=", 3, "0"}, {"77=", 3, "1"},
		{"7d", 2, "7"}, {"7dd", 3, "7"}, {"27x", 3, "2"}, {"27xp", 4, "7"}, {"27p", 3, "2"},
		{"k", 1, "31"}, {"c", 1, "2"}, {"y", 1, "1"}, {"b", 1, "980"},
		{"5l", 4, "0"}, {"kl", 4, "0"}, {"475t", 9, "4"}, {"75t5l", 12, "7"},
		{"707j", 5, "7"}, {"4705j", 6, "7"}, {"4715j", 6, ""},
		{"53v", 10, "1"}, {"b3v", 10, "1"}, {"b1+3v", 12, "0"}, {"03v", 10, "1"},
		{"47e", 6, "4"},
		{"080o", 11, "1"}, {"080op", 12, "0"}, {"001o", 11, "0"}, {"001op", 12, "0"},
		{"", 0, ""},
	} {
		logs := ""
		if strings.Contains(c.program, "e") {
			logs = ",b7"
		}
		all := fmt.Sprintf("1,0,%d%s", c.cost, logs)
		calls := []asked{{"(400,31)", all}, {fmt.Sprintf("(%d,31)", c.cost), all}, {"(31)", fmt.Sprint(c.cost)}}
		if c.cost > 0 {
			calls = append(calls, asked{fmt.Sprintf("(%d,31)", c.cost-1), fmt.Sprintf("0,0,%d", c.cost-1)}, asked{"(0,31)", "0,0,0"})
		}
		wantCalls(t, "b{"+c.program+"}", calls...)
		if c.value == "" {
			continue
		}
		wantCalls(t, "b{"+c.program+"r}",
			asked{"(400,31)", fmt.Sprintf("1,%s,%d%s", c.value, c.cost+1, logs)},
			asked{fmt.Sprintf("(%d,31)", c.cost+1), fmt.Sprintf("1,%s,%d%s", c.value, c.cost+1, logs)},
			asked{fmt.Sprintf("(%d,31)", c.cost), fmt.Sprintf("0,0,%d", c.cost)},
			asked{"(31)", fmt.Sprint(c.cost + 1)})
	}
}

// f fails with the gas used so far, its own among it; with too little for it
// all gas is used, which is as much.
func TestFail(t *testing.T) {
	wantCalls(t, "b{f}", asked{"(400,0)", "0,0,1"}, asked{"(1,0)", "0,0,1"}, asked{"(0,0)", "0,0,0"}, asked{"(0)", "-"})
	wantCalls(t, "b{72*3ef}", asked{"(400,0)", "0,0,10"}, asked{"(10,0)", "0,0,10"}, asked{"(9,0)", "0,0,9"}, asked{"(0)", "-"})
	wantCalls(t, "b{7rf}", asked{"(400,0)", "1,7,2"}, asked{"(0)", "2"})
	wantCalls(t, "b{k4jf5r}", asked{"(400,0)", "0,0,5"}, asked{"(400,1)", "1,5,6"}, asked{"(0)", "-"}, asked{"(1)", "6"})
}

// r ends the run where it stands, whatever is left on the stack.
func TestReturn(t *testing.T) {
	wantCalls(t, "b{123r+++++}", asked{"(400,0)", "1,3,4"}, asked{"(3,0)", "0,0,3"})
	wantCalls(t, "b{rk}", asked{"(400,0)", "0,0,400"}, asked{"(0)", "-"})
	wantCalls(t, "b{kr}", asked{"(400,999999)", "1,999999,2"}, asked{"(400,0)", "1,0,2"})
	// Behind the last step the value is 0, whatever is left on the stack.
	wantCalls(t, "b{789}", asked{"(400,0)", "1,0,3"})
}

func TestTooFewNumbers(t *testing.T) {
	takes := map[int]string{1: "dpler", 2: "+-*/<=xtjv", 3: "o"}
	for most, steps := range takes {
		for _, step := range steps {
			for n := range most {
				program := strings.Repeat("0", n) + string(step)
				wantCalls(t, "b{"+program+"}", asked{"(400,0)", "0,0,400"}, asked{"(7,0)", "0,0,7"}, asked{"(0)", "-"})
				// What is put and taken again is not there either.
				wantCalls(t, "b{"+"0p"+program+"}", asked{"(400,0)", "0,0,400"})
			}
			if got, _ := newAttic(t, 1).Ask("i0:h/b{" + strings.Repeat("0", most) + string(step) + "};c1:c>b(400,0)"); !strings.HasPrefix(got, "1;1,0,") {
				t.Errorf("%c with %d numbers is answered %q", step, most, got)
			}
		}
	}
}

func TestFullStack(t *testing.T) {
	full := strings.Repeat("k", 32)
	costs := map[string]int{"+": 1, "-": 1, "*": 2, "/": 2, "<": 1, "=": 1, "x": 1, "p": 1, "l": 3, "t": 6, "j": 2, "v": 8, "e": 4, "o": 8, "r": 1}
	for step, cost := range costs {
		logs := strings.Repeat(",b0", strings.Count(step, "e"))
		wantCalls(t, "b{"+full+step+"}", asked{"(400,0)", fmt.Sprintf("1,0,%d%s", 32+cost, logs)})
	}
	wantCalls(t, "b{"+full+"}", asked{"(400,0)", "1,0,32"}, asked{"(0)", "32"})
	wantCalls(t, "b{"+full+"f}", asked{"(400,0)", "0,0,33"})
	for _, step := range strings.Split("0123456789kcybd", "") {
		wantCalls(t, "b{"+full[1:]+step+"}", asked{"(400,0)", "1,0,32"})
		wantCalls(t, "b{"+full+step+"}", asked{"(400,0)", "0,0,400"}, asked{"(33,0)", "0,0,33"}, asked{"(0)", "-"})
		wantCalls(t, "b{"+full+"p"+step+"r}", asked{"(0)", "35"})
		wantCalls(t, "b{"+full+"p"+step+"k}", asked{"(400,0)", "0,0,400"})
	}
	// A run within has a stack of its own, and what it leaves there is gone.
	wantCalls(t, "b{"+full[:29]+"7b2o+r},c{"+full+"r}", asked{"(400,5)", "1,8,75"})
	wantCalls(t, "b{"+full[:29]+"7b2o00},c{"+full+"}", asked{"(400,5)", "0,0,400"})
	wantCalls(t, "b{"+full[:29]+"7b2o0},c{"+full+"}", asked{"(400,5)", "1,0,73"})
}

func TestNumbersGoRound(t *testing.T) {
	for _, c := range []struct {
		program  string
		argument int
		value    string
	}{
		{"01-r", 0, "18446744073709551615"},
		{"0k-r", 999999, "18446744073708551617"},
		{"01-1+r", 0, "0"},
		{"01-d+r", 0, "18446744073709551614"},
		{"01-9+r", 0, "8"},
		{"01-d*r", 0, "1"},
		{"02-3*r", 0, "18446744073709551610"},
		{"kd*d*r", 65536, "0"},
		{"kd*d*r", 65535, "18445618199572250625"},
		{"kd*d*r", 65537, "1125925676908545"},
		{"kd*d*kd**r", 999999, "10961151377086112385"},
		{"01-2/r", 0, "9223372036854775807"},
		{"01-d/r", 0, "1"},
		{"301-/r", 0, "0"},
		{"01-0/r", 0, "0"},
		{"01-0<r", 0, "0"},
		{"001-<r", 0, "1"},
		{"01-02-<r", 0, "0"},
		{"02-01-<r", 0, "1"},
		{"01-d=r", 0, "1"},
		{"01-1=r", 0, "0"},
		{"kd*1-kd*1+=r", 65536, "0"},
		{"kd*0=r", 65536, "0"},
		{"kd*d*0=r", 65536, "1"},
		{"01-0t0l1+r", 0, "0"},
		{"01-0t0lr", 0, "18446744073709551615"},
	} {
		got, _ := newAttic(t, 1).Ask(fmt.Sprintf("i0:h/b{%s};c1:c>b(400,%d)", c.program, c.argument))
		if !strings.HasPrefix(got, "1;1,"+c.value+",") {
			t.Errorf("%s with %d is answered %q, want the value %s", c.program, c.argument, got, c.value)
		}
	}
	wantCalls(t, "b{01-e0k-e}", asked{"(400,1)", "1,0,14,b18446744073709551615,b18446744073709551615"})
	onEach(t, func(t *testing.T, a *Attic) {
		wantAnswer(t, a, "i0:h/b{01-ft0k-e},b:b(99,0);u1", "1;1:20,0:14")
		wantAnswer(t, a, "i0:h/b{01-7t0k-e},b:b(99,2);g2:b7;l2;d1:2", "2;18446744073709551615;b18446744073709551614;b$,b{,b7,h$")
	})
}

func TestJumps(t *testing.T) {
	all := asked{"(400,0)", "0,0,400"}
	// To the length: the run ends well there, with the value 0.
	wantCalls(t, "b{715jf}", asked{"(400,0)", "1,0,5"}, asked{"(5,0)", "1,0,5"}, asked{"(4,0)", "0,0,4"})
	wantCalls(t, "b{13j}", asked{"(400,0)", "1,0,4"})
	wantCalls(t, "b{166*4+j"+strings.Repeat("f", 33)+"}", asked{"(400,0)", "1,0,9"})
	// One beyond it, and far beyond.
	wantCalls(t, "b{14j}", all, asked{"(4,0)", "0,0,4"}, asked{"(0)", "-"})
	wantCalls(t, "b{716jf}", all)
	wantCalls(t, "b{719jf}", all)
	wantCalls(t, "b{166*5+j"+strings.Repeat("f", 33)+"}", all)
	wantCalls(t, "b{101-j}", all)
	wantCalls(t, "b{103-j}", all)
	wantCalls(t, "b{1kj5r}", asked{"(400,3)", "1,5,6"}, asked{"(400,5)", "1,0,4"}, asked{"(400,6)", "0,0,400"},
		asked{"(400,256)", "0,0,400"}, asked{"(400,259)", "0,0,400"}, asked{"(400,65539)", "0,0,400"}, asked{"(400,999999)", "0,0,400"})
	// 2^32 + 3 and 2^63 + 3 are places of no program, though 3 is.
	wantCalls(t, "b{15j7r1kd*3+j}", asked{"(400,0)", "1,7,15"}, asked{"(400,65536)", "0,0,400"})
	wantCalls(t, "b{15j7r1kd*d*8*3+j}", asked{"(400,0)", "1,7,21"}, asked{"(400,32768)", "0,0,400"})
	// If p is 0 the place does not matter.
	wantCalls(t, "b{k01-j7r}", asked{"(400,0)", "1,7,8"}, asked{"(400,1)", "0,0,400"})
	wantCalls(t, "b{k9j55+r}", asked{"(9,0)", "1,10,8"}, asked{"(9,1)", "0,0,9"})
	// Any p but 0 jumps.
	wantCalls(t, "b{k4jf8r}", asked{"(400,0)", "0,0,5"}, asked{"(400,1)", "1,8,6"}, asked{"(400,2)", "1,8,6"}, asked{"(400,256)", "1,8,6"}, asked{"(400,65536)", "1,8,6"})
	wantCalls(t, "b{kd*6jf8r}", asked{"(400,65536)", "1,8,9"})
	wantCalls(t, "b{01-6jf8r}", asked{"(400,65536)", "1,8,8"})
	// Back: for ever, or till the count is done.
	wantCalls(t, "b{10j}", all, asked{"(9,0)", "0,0,9"}, asked{"(0)", "-"})
	wantCalls(t, "b{k1-d1jyr}", asked{"(400,1)", "1,1,9"}, asked{"(400,5)", "1,1,33"}, asked{"(400,66)", "1,1,399"}, asked{"(400,67)", "0,0,400"}, asked{"(66)", "399"}, asked{"(67)", "-"})
	// The numbers that were put stay where it jumps.
	wantCalls(t, "b{3517jff+r}", asked{"(400,0)", "1,8,8"})
}

func TestSlotsModulo(t *testing.T) {
	// 44* is 16: what is stored at one place is held at the other.
	for _, c := range [][2]string{{"44*", "0"}, {"44*1+", "1"}, {"44*9+", "9"}, {"44*2*1-", "53*"}, {"44*d*5+", "5"}, {"01-", "53*"}, {"07-", "9"}, {"0", "44*2*"}} {
		program := "k" + c[0] + "t" + c[1] + "lr"
		got, _ := newAttic(t, 1).Ask("i0:h/b{" + program + "};c1:c>b(400,777)")
		if !strings.HasPrefix(got, "1;1,777,") {
			t.Errorf("%s is answered %q, want 777", program, got)
		}
	}
	wantCalls(t, "b{k01-t55*3*lr}", asked{"(400,9)", "1,0,21"})
	onEach(t, func(t *testing.T, a *Attic) {
		wantAnswer(t, a, "i0:h/b{kkt},c:b(99,0),c:b(99,5),c:b(99,26),c:b(99,255),c:b(99,999999);u1", "1;1:20,1:18,1:18,1:18,1:18,1:18")
		wantAnswer(t, a, "d0:1;g1:b0;g1:b5;g1:ba;g1:bf", "b$,b{,b5,ba,bf,c$,h$;0;5;26;999999")
		// A slot is that of the account whose program runs.
		wantAnswer(t, a, "g1:c5;g1:a5;g1:h5", "0;0;0")
	})
}

func TestAccountsModulo(t *testing.T) {
	for _, c := range [][2]string{{"0", "a"}, {"1", "b"}, {"2", "c"}, {"7", "h"}, {"8", "a"}, {"9", "b"}, {"35*", "h"}, {"88*6+", "g"}, {"01-", "h"}, {"05-", "d"}} {
		place, name := c[0], c[1]
		// e calls itself and mines: but for e, only the one that gets the 7 differs.
		a := newAttic(t, 2)
		differs := []string{name + "$", "e$", "e{"}
		slices.Sort(differs)
		wantAnswer(t, a, "i0:e/e{7"+place+"v},e:e(99,0);d0:1", "1;"+list(differs))
		wantAnswer(t, a, "b1:"+name, "1007")
		// Each account but e answers its number.
		got, _ := newAttic(t, 1).Ask("i0:h/a{yr},b{yr},c{yr},d{yr},f{yr},g{yr},h{yr},e{kb" + place + "opr};c1:c>e(400,0)")
		if want := fmt.Sprintf("1;1,%d,", strings.Index(accountNames, name)); !strings.HasPrefix(got, want) {
			t.Errorf("o with %s is answered %q, want %q at its beginning", place, got, want)
		}
	}
}

func TestMoves(t *testing.T) {
	onEach(t, func(t *testing.T, a *Attic) {
		// What there is, one more, nothing, to itself.
		wantAnswer(t, a, "i0:h/b{b3ve},c:b(99,0);b1:b;b1:d;l1", "1;0;1980;b1")
		wantAnswer(t, a, "i0:h/b{b1+3ve},c:b(99,0);b2:b;b2:d;l2", "2;980;1000;b0")
		wantAnswer(t, a, "i0:h/b{01-3ve},c:b(99,0);b3:b;b3:d;l3", "3;980;1000;b0")
		wantAnswer(t, a, "i0:h/b{03ve},c:b(99,0);b4:b;b4:d;l4", "4;980;1000;b1")
		wantAnswer(t, a, "i0:h/b{b1ve},c:b(99,0);b5:b;l5", "5;980;b1")
		wantAnswer(t, a, "i0:h/b{b1+1ve},c:b(99,0);b6:b;l6", "6;980;b0")
		// What has moved is not there for the next, and the balance tells it.
		wantAnswer(t, a, "i0:h/b{kcvebek3vebe},c:b(99,600);l7;b7:c;b7:d;b7:b", "7;b1,b380,b0,b380;1552;1000;380")
		// To the caller, who has the gas back behind the run.
		wantAnswer(t, a, "i0:h/b{kcvbe},c:b(99,980);l8;b8:c;b8:b;u8", "8;b0;1955;0;1:20,1:25")
	})
}
