package attic

import (
	"fmt"
	"math/rand/v2"
	"strings"
	"testing"
)

func TestCallExamples(t *testing.T) {
	for _, c := range [][]string{
		{"i0:a/b{kd*r};c1:c>b(9,12);m1:c>b(12);c1:c>b(3,12)", "1;1,144,5;5;0,0,3"},
		{"i0:a/b{k0t7r},c:b(30,5),c:b(16,6),c:b(9,1)", "!5", "i0:a/b{k0t7r},c:b(30,5),c:b(16,6)", "1", "u1;g1:b0;b1:c;b1:a", "1:20,1:20,0:16;5;964;1106"},
		{"i0:a/b{1e2ef},c{3e091oe7r};c1:d>c(99,0)", "1;1,7,31,c3,c0"},
		{"i0:a/b{0j}", "1", "c1:a>b(9,0)", "0,0,9"},
		{"i0:a/b{10j}", "1", "c1:a>b(9,0)", "0,0,9"},
		{"i0:a/b{k9j55+r}", "1", "c1:a>b(9,0);c1:a>b(9,1)", "1,10,8;0,0,9"},
	} {
		onEach(t, func(t *testing.T, a *Attic) {
			for i := 0; i < len(c); i += 2 {
				wantAnswer(t, a, c[i], c[i+1])
			}
		})
	}
}

// The edges of a call in a block: its gas, and what the caller has.
func TestCallRefusals(t *testing.T) {
	for _, c := range []struct{ batch, want string }{
		{"i0:h/c:b(0,0);u1", "!5;!3"},
		{"i0:h/c:b(1,0)", "!5"},
		{"i0:h/c:b(9,0)", "!5"},
		{"i0:h/c:b(10,0);u1;b1:c;b1:h", "1;1:10;990;1060"},
		{"i0:h/b{r},c:b(10,0);u1;b1:c;b1:h", "1;1:20,0:10;990;1080"},
		{"i0:h/b{7},c:b(11,0);u1;b1:c;b1:h", "1;1:20,1:11;989;1081"},
		{"i0:h/c:b(400,0);u1;b1:c;b1:h", "1;1:10;990;1060"},
		{"i0:h/b{10j},c:b(400,0);u1;b1:c;b1:h", "1;1:20,0:400;600;1470"},
		{"i0:h/c:b(401,0)", "!5"},
		{"i0:h/c:b(410,0)", "!5"},
		{"i0:h/c:b(999999,0)", "!5"},
		// What the caller has, and one more: 50 are left behind the payment.
		{"i0:h/c>d=940,c:b(50,0);b1:c;u1", "1;40;1:10,1:10"},
		{"i0:h/b{10j},c>d=940,c:b(50,0);b1:c;u1", "1;0;1:20,1:10,0:50"},
		{"i0:h/c>d=940,c:b(51,0)", "!5"},
		{"i0:h/c>d=990,c:b(10,0)", "!5"},
		{"i0:h/c>d=980,c:b(10,0);b1:c", "1;0"},
		{"i0:h/c>d=981,c:b(10,0)", "!5"},
		// What the called one has does not matter.
		{"i0:h/b>d=990,c:b(400,0);b1:b", "1;0"},
		// The gas of a call is there for the miner's next one, and what is left for the caller's.
		{"i0:c/c>d=990,c:b(10,0),c:b(10,0);b1:c", "1;60"},
		{"i0:c/c>d=990,c:b(11,0)", "!5"},
		{"i0:h/c>d=640,c:b(350,0),c:b(340,0),c:b(330,0);b1:c", "1;320"},
		{"i0:h/c>d=640,c:b(350,0),c:b(341,0)", "!5"},
	} {
		onEach(t, func(t *testing.T, a *Attic) { wantAnswer(t, a, c.batch, c.want) })
	}
}

func TestCallPays(t *testing.T) {
	for _, c := range []struct{ batch, want string }{
		// The whole gas is paid while the program runs, by the caller, for nobody yet.
		{"i0:h/c{be},c:c(100,0);l1;b1:c;b1:h", "1;c880;965;1085"},
		{"i0:h/b{be},c:b(100,0);l1;b1:b;b1:c;b1:h", "1;b980;980;985;1085"},
		{"i0:h/h{be},c:h(100,0);l1;b1:h", "1;h1000;1065"}, // its 20 came back to the miner
		{"i0:h/b{kbco},c{be},c:b(100,0);l1;b1:c;u1", "1;c880;954;1:20,1:20,1:26"},
		// Caller, called and miner are one.
		{"i0:c/c{be},c:c(100,0);l1;b1:c;u1;d0:1", "1;c900;1050;1:20,1:15;c$,c{"},
		{"i0:c/c{bef},c:c(100,0);l1;b1:c;u1", "1;-;1050;1:20,0:16"},
		{"i0:c/c{10j},c:c(100,0);l1;b1:c;u1", "1;-;1050;1:20,0:100"},
		// Caller and miner are one; caller and called are.
		{"i0:c/b{be},c:b(100,0);l1;b1:b;b1:c", "1;b980;980;1070"},
		{"i0:h/c{b3v},c:c(100,0);b1:c;b1:d;b1:h;u1", "1;80;1880;1090;1:20,1:20"},
		{"i0:h/c{b3vf},c:c(100,0);b1:c;b1:d;b1:h;u1", "1;959;1000;1091;1:20,0:21"},
		{"i0:h/c{b3v+},c:c(100,0);b1:c;b1:d;b1:h;u1", "1;880;1000;1170;1:20,0:100"},
		{"i0:h/c{b1+3ve},c:c(100,0);b1:c;b1:d;l1", "1;954;1000;c0"},
		// What a call has moved is there for the next transaction.
		{"i0:h/b{b2v},d:b(99,0),c>e=1970;b1:c;b1:b;u1", "1;0;0;1:20,1:20,1:10"},
		{"i0:h/b{b2v},d:b(99,0),c>e=1971", "!5"},
		{"i0:h/b{b2v},d:b(99,0),b>e=0", "!5"},
		{"i0:h/b{b2vf},d:b(99,0),b>e=970;b1:b", "1;0"},
		// The program that is run is that which is set then.
		{"i0:h/b{1e},c:b(99,0),b{2e},c:b(99,0),b{},c:b(99,0);l1;u1", "1;b1,b2;1:20,1:15,1:20,1:15,1:20,1:10"},
		{"i0:h/c:b(99,0),b{1e};l1;u1;i1:h/c:b(99,0);l2;u2", "1;-;1:10,1:20;2;b1;1:15"},
	} {
		onEach(t, func(t *testing.T, a *Attic) { wantAnswer(t, a, c.batch, c.want) })
	}
}

// A greater gas fails again in a block where the caller calls itself: while the
// program runs its balance is less by the gas. For c and m nobody pays.
func TestGreaterGasFailsAgain(t *testing.T) {
	onEach(t, func(t *testing.T, a *Attic) {
		// The jump cannot be, if the balance, 980, is below 9 * 9 * 9 then.
		wantAnswer(t, a, "i0:a/c{b99*9*<99*j}", "1")
		wantAnswer(t, a, "i1:a/c:c(24,0);i1:a/c:c(25,0);i1:a/c:c(251,0);i1:a/c:c(252,0);i1:a/c:c(400,0);u2;u3;u4;u5;u6", "2;3;4;5;6;0:24;1:25;1:25;0:252;0:400")
		wantAnswer(t, a, "m1:c>c(0);c1:c>c(14,0);c1:c>c(15,0);c1:c>c(242,0);c1:c>c(400,0)", "15;0,0,14;1,0,15;1,0,15;1,0,15")
	})
}

// A call that is refused behind calls that were done: there is no block.
func TestCallRefusedBehindOthers(t *testing.T) {
	onEach(t, func(t *testing.T, a *Attic) {
		wantAnswer(t, a, "i0:a/b{kkt1ek3v},g>h=940", "1")
		before, _ := a.Ask("r0;r1;rh;u1;l1;d0:1;b1:b;b1:c;g1:b5")
		for _, bad := range []string{"c:b(9,5)", "c:b(401,5)", "c:b(0,5)", "g:b(51,5)", "g>h=41"} {
			for at := range 8 {
				wantAnswer(t, a, "ih:a/"+oneOther("c:b(40,5)", bad, at)+";r2;dh:1;gh:b5;lh;bh:d", "!5;!3;-;0;-;1000")
				wantVersions(t, a, 2)
			}
		}
		wantAnswer(t, a, "r0;r1;rh;u1;l1;d0:1;b1:b;b1:c;g1:b5", before)
		wantAnswer(t, a, "ih:a/"+oneOther("c:b(40,5)", "g:b(50,5)", 4)+";g2:b5;l2;b2:d", "2;5;"+many("b1", ",", 8)+";1040")
	})
}

func TestLogsAndUses(t *testing.T) {
	onEach(t, func(t *testing.T, a *Attic) {
		wantAnswer(t, a, "i0:a/b{keke},c{kef},d{7ek1ope};l1;u1", "1;-;1:20,1:20,1:20")
		// In their order; of those that fail there are none, and the others are kept.
		wantAnswer(t, a, "i1:a/e:b(99,1),e:c(99,2),e:b(99,3),e:c(12,4),f>g=5,e:b(15,6),e:b(20,7);l2;u2", "2;b1,b1,b3,b3,b7,b7;1:20,0:16,1:20,0:12,1:10,0:15,1:20")
		// Of the version's own block alone.
		wantAnswer(t, a, "i2:a/;l3;u3;i2:a/e:b(99,999999);l4;u4;l2;lh;uh", "3;-;-;4;b999999,b999999;1:20;b1,b1,b3,b3,b7,b7;-;-")
		wantAnswer(t, a, "i1:a/e:c(99,5);l5;u5", "5;-;0:16")
		wantAnswer(t, a, "i1:a/a>b=1,e:c(99,5),e{k},e:a(77,5);l6;u6", "6;-;1:10,0:16,1:20,1:10")
	})
}

func TestWouldCall(t *testing.T) {
	onEach(t, func(t *testing.T, a *Attic) {
		wantAnswer(t, a, "i0:a/b{kd*r},c{10j},d{1e2ek}", "1")
		wantAnswer(t, a, "c1:a>b(400,3);c1:a>b(401,3);c1:a>b(999999,3);c1:a>b(0,3);c1:a>b(5,3);c1:a>b(4,3)", "1,9,5;!6;!6;0,0,0;1,9,5;0,0,4")
		wantAnswer(t, a, "c1:a>c(400,3);c1:a>c(399,3);c1:a>c(0,0);c1:a>c(401,0)", "0,0,400;0,0,399;0,0,0;!6")
		// Of no program: the call ends well without gas, whoever has it.
		wantAnswer(t, a, "c1:a>e(0,3);c1:a>e(400,3);c0:a>b(0,3);m0:a>b(3);m1:a>e(3);c1:a>e(401,0)", "1,0,0;1,0,0;1,0,0;0;0;!6")
		// The version is looked for first.
		wantAnswer(t, a, "c2:a>b(400,3);c2:a>b(401,3);c99:a>b(999999,3);m2:a>b(3);m99:a>b(0)", "!3;!3;!3;!3;!3")
		wantAnswer(t, a, "c2:a>b(401,3);m2:a>b(3);c1:a>b(401,3);ih:a/;c2:a>b(401,3);m2:a>b(3);c2:a>b(400,3)", "!3;!3;!6;2;!6;5;1,9,5")
		// The logs stand behind the gas.
		wantAnswer(t, a, "c1:a>d(400,3);c1:a>d(11,3);c1:a>d(10,3);m1:a>d(3);ch:h>d(400,0)", "1,0,11,d1,d2;1,0,11,d1,d2;0,0,10;11;1,0,11,d1,d2")
		// Nobody pays: who has nothing may ask, and the caller's balance is whole.
		wantAnswer(t, a, "i0:a/e{be},e>f=970;c3:e>e(400,0);c3:e>e(5,0);b3:e;c3:f>e(400,0)", "3;1,0,5,e0;1,0,5,e0;0;1,0,5,e0")
	})
	// Each account calls and is called.
	for x := range accountNames {
		for y := range accountNames {
			a := newAttic(t, 1)
			caller, called := accountNames[x:x+1], accountNames[y:y+1]
			wantAnswer(t, a, "i0:h/"+called+"{ceyr};c1:"+caller+">"+called+"(9,0);m1:"+caller+">"+called+"(0)", fmt.Sprintf("1;1,%d,7,%s%d;7", y, called, x))
			wantAnswer(t, a, "ih:h/"+caller+":"+called+"(17,0);l2;u2", fmt.Sprintf("2;%s%d;1:17", called, x))
		}
	}
}

// c and m ask on a state as it is, of any version, and change none.
func TestQuestionsChangeNothing(t *testing.T) {
	onEach(t, func(t *testing.T, a *Attic) {
		wantAnswer(t, a, "i0:a/b{0l1+d0te93v};i1:a/c:b(99,0);i2:a/c:b(99,0)", "1;2;3")
		all := "r0;r1;r2;r3;l2;u2;l3;u3;d0:3;b3:d;g1:b0;g2:b0;g3:b0"
		before, _ := a.Ask(all)
		questions := "c1:c>b(99,0);c2:c>b(99,0);c3:c>b(99,0);m3:c>b(0);ch:c>b(99,0);mh:c>b(0);c1:c>b(99,0);c3:c>b(28,0);c3:c>b(27,0)"
		want := "1,0,28,b1;1,0,28,b2;1,0,28,b3;28;1,0,28,b3;28;1,0,28,b1;1,0,28,b3;0,0,27"
		for range 3 {
			wantAnswer(t, a, questions, want)
			wantAnswer(t, a, all, before)
			wantVersions(t, a, 4)
		}
		// Among imports: what is asked ahead of one is not asked of it.
		wantAnswer(t, a, "ch:c>b(99,0);ih:a/c:b(99,0);ch:c>b(99,0);l4;c3:c>b(99,0);i1:a/;ch:c>b(99,0);c5:c>b(99,0)", "1,0,28,b3;4;1,0,28,b4;b3;1,0,28,b3;5;1,0,28,b4;1,0,28,b1")
	})
}

// The least gas is the first with which c does not answer a failure.
func TestLeastGas(t *testing.T) {
	onEach(t, func(t *testing.T, a *Attic) {
		wantAnswer(t, a, "i0:a/b{kd0l+0t1-d1j0lr},c{00j1f},d{},e{k1-d1j},f{r},g{f};m1:e>b(1);m1:e>b(20);m1:e>b(21);m1:e>c(0);m1:e>d(0);m1:e>f(9);m1:e>g(0);m1:e>h(999999)", "1;25;386;-;-;0;-;-;0")
		wantAnswer(t, a, "m1:h>e(1);m1:h>e(66);m1:h>e(67);c1:h>e(400,66);c1:h>e(397,66);c1:h>e(396,66);m1:a>e(0)", "7;397;-;1,0,397;1,0,397;0,0,396;-")
	})
	// Just MaxGas, and one more: 400 is 1 + 66 * 6 + 3.
	wantCalls(t, "b{k1-d1jkkk}", asked{"(66)", "400"}, asked{"(400,66)", "1,0,400"}, asked{"(399,66)", "0,0,399"})
	wantCalls(t, "b{k1-d1jkkkk}", asked{"(66)", "-"}, asked{"(400,66)", "0,0,400"})
}

func TestLeastGasIsLeast(t *testing.T) {
	for seed := range uint64(60) {
		r := rand.New(rand.NewPCG(seed, 3))
		a := newAttic(t, 4)
		wantAnswer(t, a, "i0:a/"+randomPrograms(r), "1")
		for _, y := range strings.Split(accountNames, "") {
			k := randomArgument(r)
			want := "-"
			for gas := 400; gas >= 0; gas-- {
				if answer, _ := a.Ask(fmt.Sprintf("c1:c>%s(%d,%s)", y, gas, k)); answer[0] == '1' {
					want = fmt.Sprint(gas)
				}
			}
			wantAnswer(t, a, "m1:c>"+y+"("+k+")", want)
		}
	}
}

// The digest behind a call, reckoned apart from the program: b's slot f has the
// argument, and its slot 0 has 2^64 less the argument.
func TestDigestBehindCalls(t *testing.T) {
	onEach(t, func(t *testing.T, a *Attic) {
		wantAnswer(t, a, "i0:a/b{k53*t0k-0t},c:b(99,999999);u1;rh;r1;r0;d0:1", "1;1:20,1:31;d4942606c4af6a41;d4942606c4af6a41;"+digestZero+";a$,b$,b{,b0,bf,c$")
	})
}

func TestDifferencesInSlots(t *testing.T) {
	onEach(t, func(t *testing.T, a *Attic) {
		wantAnswer(t, a, "i0:h/b{kkt},e{0kt};i1:h/c:b(99,3),c:e(99,3);i1:h/c:b(99,12),c:b(99,3);i1:h/c:b(99,19),c:b(99,12)", "1;2;3;4")
		wantAnswer(t, a, "d1:2;d2:1;d1:3;d2:3;d3:4;d4:3;d2:4;d4:4", "b3,c$,h$;b3,c$,h$;b3,bc,c$,h$;bc;b3;b3;b3,bc;-")
		// A nought stored is what there was; what is stored back is no difference.
		wantAnswer(t, a, "i2:h/c:b(99,0),c:e(99,7);d2:5;i2:h/c:b(99,19),c:b(99,3);d2:6;g6:b3", "5;c$,h$;6;c$,h$;3")
		// All slots of an account, in their order.
		wantAnswer(t, a, "i0:h/a{kddt1-d1j},c:a(235,16);u7;d0:7;g7:a0;g7:af", "7;1:20,1:235;a$,a{,a0,a1,a2,a3,a4,a5,a6,a7,a8,a9,aa,ab,ac,ad,ae,af,c$,h$;16;15")
	})
}
