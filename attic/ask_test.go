package attic

import (
	"fmt"
	"math"
	"slices"
	"strings"
	"testing"
)

// digestZero is the digest of version 0, reckoned apart from the program.
const digestZero = "275369b6f80cb305"

func newAttic(t *testing.T, workers int) *Attic {
	t.Helper()
	a, e := New(workers)
	if a == nil || e != OK {
		t.Fatalf("New(%d) = %v, %d", workers, a, e)
	}
	wantVersions(t, a, 1)
	return a
}

// onEach gives a new attic of each number of workers.
func onEach(t *testing.T, do func(t *testing.T, a *Attic)) {
	for workers := 1; workers <= 8; workers++ {
		t.Run(fmt.Sprint(workers), func(t *testing.T) { do(t, newAttic(t, workers)) })
	}
}

func wantAnswer(t *testing.T, a *Attic, batch, want string) {
	t.Helper()
	if got, e := a.Ask(batch); got != want || e != OK {
		t.Errorf("Ask(%q) = %q, %d, want %q, OK", batch, got, e, want)
	}
}

func wantRefused(t *testing.T, a *Attic, batch string, want Errno) {
	t.Helper()
	if got, e := a.Ask(batch); got != "" || e != want {
		t.Errorf("Ask(%.60q) = %q, %d, want nothing, %d", batch, got, e, want)
	}
}

func wantVersions(t *testing.T, a *Attic, want int) {
	t.Helper()
	if got := a.Versions(); got != want {
		t.Errorf("Versions() = %d, want %d", got, want)
	}
}

func TestNew(t *testing.T) {
	for _, workers := range []int{0, -1, 9, 10, 255, 256, 257, 1 << 32, 1<<32 + 1, math.MaxInt, math.MinInt, math.MinInt + 1} {
		if a, e := New(workers); a != nil || e != ErrWorkers {
			t.Errorf("New(%d) = %v, %d, want nil, ErrWorkers", workers, a, e)
		}
	}
	onEach(t, func(t *testing.T, a *Attic) {
		wantAnswer(t, a, "", "")
		wantAnswer(t, a, "b0:a;b1:a;g0:h0;u0;l0;d0:h", "1000;!3;0;-;-;-")
		wantVersions(t, a, 1)
	})
}

func TestAskExamples(t *testing.T) {
	onEach(t, func(t *testing.T, a *Attic) {
		wantAnswer(t, a, "b0:a;b1:a;g0:h0;u0;l0;d0:h", "1000;!3;0;-;-;-")
		wantAnswer(t, a, "i0:a/b>c=5;bh:a;bh:b;b1:c;u1;d0:1", "1;1060;985;1005;1:10;a$,b$,c$")
		wantAnswer(t, a, "i0:a/b>c=991", "!5")
		wantAnswer(t, a, "i0:a/b>b=990", "2")
	})
	onEach(t, func(t *testing.T, a *Attic) {
		got, _ := a.Ask("i0:a/;i0:b/;rh;i2:c/;dh:1;dh:0;bh:a")
		digest, _ := a.Ask("r1")
		if want := "1;2;" + digest + ";3;a$,b$,c$;b$,c$;1000"; got != want {
			t.Errorf("answered %q, want %q", got, want)
		}
	})
}

func TestVersionZero(t *testing.T) {
	onEach(t, func(t *testing.T, a *Attic) {
		for _, name := range []string{"0", "h"} {
			for _, x := range strings.Split("abcdefgh", "") {
				wantAnswer(t, a, "b"+name+":"+x, "1000")
				for _, slot := range strings.Split("0123456789abcdef", "") {
					wantAnswer(t, a, "g"+name+":"+x+slot, "0")
				}
			}
			wantAnswer(t, a, "l"+name+";u"+name+";r"+name+";d"+name+":0;d"+name+":h", "-;-;"+digestZero+";-;-")
		}
		wantVersions(t, a, 1)
	})
}

func TestNoSuchVersion(t *testing.T) {
	onEach(t, func(t *testing.T, a *Attic) {
		for _, name := range []string{"1", "2", "9", "10", "39", "40", "99"} {
			batch := strings.ReplaceAll("i%:a/;g%:a0;b%:a;c%:a>b(9,0);c%:a>b(401,0);m%:a>b(0);r%;l%;u%;d%:0;d0:%;d%:%;dh:%;i%:a/a:b(9,0)", "%", name)
			wantAnswer(t, a, batch, many("!3", ";", 14))
		}
		wantVersions(t, a, 1)
		wantAnswer(t, a, "i0:a/", "1")
		wantAnswer(t, a, "b1:a;g1:a0;l1;u1;d1:1;b2:a;d2:1;d1:2;i2:a/", "1050;0;-;-;-;!3;!3;!3;!3")
		wantVersions(t, a, 2)
	})
}

func TestQuestionsAmongImports(t *testing.T) {
	onEach(t, func(t *testing.T, a *Attic) {
		wantAnswer(t, a,
			"b1:a;bh:a;d0:1;i0:a/;b1:a;bh:a;d0:1;b2:a;u2;ih:a/a>b=1;u2;b2:a;bh:a;b1:a;b0:a;d0:2;b3:a;i3:a/;i0:a/a>b=991;b3:a;i2:b/;b3:b;bh:b",
			"!3;1000;!3;1;1050;1050;a$;!3;!3;2;1:10;1099;1099;1050;1000;a$,b$;!3;!3;!5;!3;3;1051;1051")
		wantVersions(t, a, 4)
		wantAnswer(t, a, "b3:b;bh:b;b4:b", "1051;1051;!3")
	})
}

func TestPayment(t *testing.T) {
	for _, c := range []struct{ batch, want string }{
		{"i0:a/b>c=990;b1:a;b1:b;b1:c;u1", "1;1060;0;1990;1:10"},
		{"i0:a/b>c=991;u1", "!5;!3"},
		{"i0:a/b>c=0;b1:a;b1:b;b1:c", "1;1060;990;1000"},
		{"i0:a/b>c=999999", "!5"},
		{"i0:a/b>c=1000", "!5"}, // what is paid is there, but not the gas
		// to itself
		{"i0:a/b>b=990;b1:a;b1:b;d0:1", "1;1060;990;a$,b$"},
		{"i0:a/b>b=991", "!5"},
		{"i0:b/b>b=990;b1:b;d0:1", "1;1050;b$"},
		{"i0:b/b>b=991", "!5"},
		// to the miner, and by the miner
		{"i0:a/b>a=990;b1:a;b1:b", "1;2050;0"},
		{"i0:b/b>a=990;b1:a;b1:b", "1;1990;60"},
		{"i0:b/b>a=991", "!5"},                            // the miner gets its 50 behind all transactions
		{"i0:b/b>a=990,b>c=0;b1:b;u1", "1;60;1:10,1:10"},  // and the gas behind each one
		{"i0:b/b>a=990,b>c=1", "!5"},                      // but no more than that
		{"i0:a/b>c=990,c>b=1980;b1:b;b1:c", "1;1980;0"},   // what is paid is there for the next one
		{"i0:a/b>c=990,c>b=1981", "!5"},                   // and no more
		{"i0:a/b>c=990,b>c=0", "!5"},                      // nothing is left for the gas
		{"i0:a/b>c=980,b>c=0;b1:b;b1:a", "1;0;1070"},      // just enough is
		{"i0:h/g>h=7;b1:g;b1:h;d1:0", "1;983;1067;g$,h$"}, // the last accounts
		{"i0:a/" + many("b>c=1", ",", 8) + ";b1:b;b1:c;b1:a;u1", "1;912;1008;1130;" + many("1:10", ",", 8)},
	} {
		onEach(t, func(t *testing.T, a *Attic) { wantAnswer(t, a, c.batch, c.want) })
	}
}

func TestProgram(t *testing.T) {
	forty := strings.Repeat("7", 40)
	for _, c := range []struct{ batch, want string }{
		{"i0:a/b{kr};b1:a;b1:b;d0:1;u1", "1;1070;980;a$,b$,b{;1:20"},
		{"i0:b/b{kr};b1:b;d0:1", "1;1050;b$,b{"},
		{"i0:a/b>c=970,b{kr};b1:b;b1:a;u1;d0:1", "1;0;1080;1:10,1:20;a$,b$,b{,c$"},
		{"i0:a/b>c=971,b{kr};u1", "!5;!3"},
		{"i0:b/b>c=980,b{kr};b1:b", "1;70"}, // the gas of the payment comes back to the miner
		{"i0:b/b>c=981,b{kr}", "!5"},
		{"i0:a/b{};d0:1", "1;a$,b$"}, // none again
		{"i0:a/b{kr},b{};d0:1;u1", "1;a$,b$;1:20,1:20"},
		{"i0:a/b{k},b{r};i0:a/b{r},b{r};i0:a/b{k},b{k};d1:2;d1:3", "1;2;3;-;b{"},
		{"i0:a/b{" + forty + "};i0:a/b{" + forty[:39] + "};i0:a/b{" + forty[:39] + "8};d1:2;d1:3;d1:1", "1;2;3;b{;b{;-"},
		{"i0:a/b{kr};i1:a/c{kr};d1:2;i2:a/b{kr},c{};d2:3;d3:1", "1;2;a$,c$,c{;3;a$,b$,c$,c{;a$,b$,c$"},
	} {
		onEach(t, func(t *testing.T, a *Attic) { wantAnswer(t, a, c.batch, c.want) })
	}
}

func TestRefusedBlocks(t *testing.T) {
	good, bad := "b>c=5", "d>e=991"
	onEach(t, func(t *testing.T, a *Attic) {
		wantAnswer(t, a, "i0:a/b{r}", "1")
		before, _ := a.Ask("r0;r1;rh;u1;d0:1")
		for at := range 8 {
			block := oneOther(good, bad, at)
			wantAnswer(t, a, "ih:a/"+block+";r2;dh:1;bh:c", "!5;!3;-;1000")
			wantVersions(t, a, 2)
		}
		wantAnswer(t, a, "r0;r1;rh;u1;d0:1", before)
		wantAnswer(t, a, "i1:a/"+many(good, ",", 8)+";b2:c", "2;1040")
		wantVersions(t, a, 3)
	})
}

// oneOther answers eight transactions, of which one is another.
func oneOther(each, other string, at int) string {
	all := slices.Repeat([]string{each}, 8)
	all[at] = other
	return strings.Join(all, ",")
}

func TestHead(t *testing.T) {
	onEach(t, func(t *testing.T, a *Attic) {
		// Of one height the lowest number is the head: 1, until 4 is higher.
		wantAnswer(t, a, "i0:a/;i0:b/;i0:c/;dh:1;dh:2;i3:d/;dh:4;i2:e/;i1:f/;dh:4;bh:d;bh:c;bh:a", "1;2;3;-;a$,b$;4;-;5;6;-;1050;1050;1000")
		// On the head: 7 is higher by one, and 8, made on an old one, is not.
		wantAnswer(t, a, "ih:g/;dh:7;d4:7;i0:h/;dh:7;b8:h;b8:g", "7;-;g$;8;-;1050;1000")
		// A refused block moves no head; nor does one that reaches the same height.
		wantAnswer(t, a, "ih:a/a>b=999;dh:7;i6:a/;dh:7;b9:f;b9:g;i9:a/;dh:10", "!5;-;9;-;1050;1000;10;-")
		wantVersions(t, a, 11)
	})
}

func TestFull(t *testing.T) {
	onEach(t, func(t *testing.T, a *Attic) {
		for made := 1; made < 39; made++ {
			wantAnswer(t, a, "ih:a/", fmt.Sprint(made))
		}
		wantVersions(t, a, 39)
		wantAnswer(t, a, "b39:a;i0:a/a>b=991;b39:a;ih:b/;b39:a;b39:b;ih:a/;i0:a/;bh:b;b40:a", "!3;!5;!3;39;2900;1050;!4;!4;1050;!3")
		wantVersions(t, a, 40)
		// Of several refusals: the version, then the room, then the block.
		wantAnswer(t, a, "i40:a/;i40:a/a>b=999999;i99:a/;i39:a/;i0:a/a>b=999999;i0:a/a:b(9,0);d0:40;d40:0", "!3;!3;!3;!4;!4;!4;!3;!3")
		wantVersions(t, a, 40)
		wantAnswer(t, a, "b39:a;bh:a;b0:a;b1:a;b38:a;d38:39", "2900;2900;1000;1050;2900;b$")
	})
	onEach(t, func(t *testing.T, a *Attic) {
		wantAnswer(t, a, "i1:a/a>b=999999;i0:a/a>b=999999;d1:2;d2:1", "!3;!5;!3;!3")
	})
}

// All versions that there can be, made in two batches with questions among
// them.
func TestFullInOneBatch(t *testing.T) {
	onEach(t, func(t *testing.T, a *Attic) {
		model := newPlain()
		for _, batch := range []string{many("ih:a/", ";", 24), many("i0:b/;dh:0;bh:a", ";", 8), many("ih:c/;rh", ";", 12)} {
			wantAnswer(t, a, batch, model.ask(batch))
		}
		wantVersions(t, a, 40)
	})
}

func TestRefusedBatches(t *testing.T) {
	onEach(t, func(t *testing.T, a *Attic) {
		for range 2 {
			versions := a.Versions()
			before, _ := a.Ask("r0;rh;uh;d0:h")
			for _, batch := range []string{"i0:a/;b0:i", "i0:a/;", "ih:a/;i0:b/,", ";i0:a/", "i0:a/i", "i0:a/ ", "i0:a/a>b=5,", "\xff", " ",
				many("i0:a/", ";", 25), "i0:a/;c0:a>b(1)", "i0:a/;i0:a/a{z}", strings.Repeat("z", 1200)} {
				wantRefused(t, a, batch, ErrForm)
			}
			for _, batch := range []string{many("i0:a/", ";", 24) + strings.Repeat("z", 1201), strings.Repeat("i0:a/;", 201), strings.Repeat("x", 9000000), strings.Repeat("\x00", 1201)} {
				wantRefused(t, a, batch, ErrLong)
			}
			wantVersions(t, a, versions)
			wantAnswer(t, a, "r0;rh;uh;d0:h", before)
			wantAnswer(t, a, "ih:a/b>c=1", fmt.Sprint(versions))
		}
	})
}

func TestTwoAttics(t *testing.T) {
	for workers := 1; workers <= 8; workers++ {
		a, b := newAttic(t, workers), newAttic(t, 9-workers)
		for made := 1; made < 40; made++ {
			wantAnswer(t, a, "ih:a/;bh:a;bh:b", fmt.Sprintf("%d;%d;1000", made, 1000+50*made))
			wantVersions(t, b, made)
			wantAnswer(t, b, "i0:b/b{k};bh:a;bh:b;d0:h", fmt.Sprintf("%d;1000;1050;b$,b{", made))
			wantVersions(t, a, made+1)
		}
		wantAnswer(t, a, "ih:a/", "!4")
		wantAnswer(t, newAttic(t, workers), "bh:a;ih:b/;bh:b", "1000;1;1050")
	}
}

// Ask answers the error of Check at any text, and changes nothing then.
func TestAskHasTheErrorOfCheck(t *testing.T) {
	a := newAttic(t, 3)
	for _, batch := range []string{"i0:a/;rh;g0:af;d0:h", "i0:h/b>c=991,d{kr};uh;l0;b12:a", "c0:a>b(400,12);m0:a>b(7);i0:a/a:b(10,0)"} {
		for at := range batch {
			for b := range 256 {
				text := batch[:at] + string([]byte{byte(b)}) + batch[at+1:]
				versions := a.Versions()
				want, _ := Check(text)
				got, e := a.Ask(text)
				if e != want || e != OK && (got != "" || a.Versions() != versions) {
					t.Errorf("Ask(%q) = %q, %d with %d versions, of %d; Check answers %d", text, got, e, a.Versions(), versions, want)
				}
			}
		}
	}
}
