package attic

import (
	"strings"
	"testing"
)

// What o puts, and in which order: the value, then 1.
func TestWithinEndsWell(t *testing.T) {
	// c is run with the argument 5 and the gas 9, and uses 4 of it.
	wantCalls(t, "b{592or},c{k7+r}", asked{"(400,0)", "1,1,16"}, asked{"(0)", "16"}, asked{"(15,0)", "0,0,15"})
	wantCalls(t, "b{592opr},c{k7+r}", asked{"(400,0)", "1,12,17"}, asked{"(0)", "17"})
	wantCalls(t, "b{592o+r},c{k7+r}", asked{"(400,0)", "1,13,17"})
	wantCalls(t, "b{592opr},c{k7+}", asked{"(400,0)", "1,0,16"}) // its value is 0 behind the last step
	wantCalls(t, "b{592o+r},c{}", asked{"(400,0)", "1,1,13"})
	wantCalls(t, "b{502o+r},c{}", asked{"(400,0)", "1,1,13"}) // no gas is enough for no steps
	// Below them the stack is as it was.
	wantCalls(t, "b{8592oppr},c{k7+r}", asked{"(400,0)", "1,8,19"})
	// The argument, the caller, the account and its balance are those of the run within.
	wantCalls(t, "b{k92opr},c{kr}", asked{"(400,777)", "1,777,15"})
	wantCalls(t, "b{01-92opr},c{kr}", asked{"(400,777)", "1,18446744073709551615,17"})
	wantCalls(t, "b{k92opr},c{cr}", asked{"(400,777)", "1,1,15"})
	wantCalls(t, "b{k92opr},c{yr}", asked{"(400,777)", "1,2,15"})
	wantCalls(t, "b{k92opr},c{br},c>a=100", asked{"(400,777)", "1,870,15"})
	// And behind it those of the run without.
	wantCalls(t, "b{k92oppceyekebe},c{2r}", asked{"(400,777)", "1,0,35,b2,b1,b777,b980"})
}

func TestWithinFails(t *testing.T) {
	// All that it had is used, but for f.
	wantCalls(t, "b{592o+r},c{+}", asked{"(400,0)", "1,0,22"}, asked{"(0)", "22"}, asked{"(21,0)", "0,0,21"})
	wantCalls(t, "b{592o+r},c{10j}", asked{"(400,0)", "1,0,22"})
	wantCalls(t, "b{592o+r},c{19j}", asked{"(400,0)", "1,0,22"})
	wantCalls(t, "b{592o+r},c{kkkkkkkkkr}", asked{"(400,0)", "1,0,22"})
	wantCalls(t, "b{592o+r},c{f}", asked{"(400,0)", "1,0,14"}, asked{"(0)", "14"})
	wantCalls(t, "b{592o+r},c{345f}", asked{"(400,0)", "1,0,17"})
	wantCalls(t, "b{502o+r},c{f}", asked{"(400,0)", "1,0,13"}) // without gas not even f
	// Both noughts are there, and below them the stack is as it was.
	wantCalls(t, "b{8592oppr},c{7f}", asked{"(400,0)", "1,8,17"})
	wantCalls(t, "b{592opppr},c{7f}", asked{"(400,0)", "0,0,400"})
	// b fails where c has not.
	wantCalls(t, "b{592of},c{k7+r}", asked{"(400,0)", "0,0,16"}, asked{"(0)", "-"})
}

// The run within has what it is given, or what is left if that is less.
func TestGasWithin(t *testing.T) {
	// c uses all that it has.
	wantCalls(t, "b{092o},c{10j}", asked{"(400,0)", "1,0,20"}, asked{"(20,0)", "1,0,20"}, asked{"(19,0)", "1,0,19"}, asked{"(12,0)", "1,0,12"},
		asked{"(11,0)", "1,0,11"}, asked{"(10,0)", "0,0,10"}, asked{"(0)", "11"})
	wantCalls(t, "b{092o7r},c{10j}", asked{"(22,0)", "1,7,22"}, asked{"(21,0)", "0,0,21"}, asked{"(20,0)", "0,0,20"}, asked{"(11,0)", "0,0,11"}, asked{"(0)", "22"})
	// Asked for is more than any call has: the balance, 2^64 - 1, 2^32, 2^63.
	wantCalls(t, "b{0b2o},c{10j}", asked{"(400,0)", "1,0,400"}, asked{"(100,0)", "1,0,100"})
	wantCalls(t, "b{001-2o},c{10j}", asked{"(400,0)", "1,0,400"}, asked{"(15,0)", "1,0,15"})
	wantCalls(t, "b{0kd*2opr},c{7r}", asked{"(400,65536)", "1,7,18"}, asked{"(65536)", "18"})
	wantCalls(t, "b{0kd*d*8*2opr},c{7r}", asked{"(400,32768)", "1,7,24"})
	wantCalls(t, "b{0k2opr},c{7r}", asked{"(400,2)", "1,7,15"}, asked{"(400,1)", "1,0,14"}, asked{"(400,0)", "1,0,13"}, asked{"(400,999999)", "1,7,15"})
	// c needs 5: with less left it fails, and what is left is gone.
	wantCalls(t, "b{092oe},c{72*r}", asked{"(20,0)", "1,0,20,b1"}, asked{"(19,0)", "0,0,19"}, asked{"(16,0)", "0,0,16"}, asked{"(15,0)", "0,0,15"}, asked{"(0)", "20"})
	wantCalls(t, "b{042oe},c{72*r}", asked{"(400,0)", "1,0,19,b0"}, asked{"(0)", "19"})
	wantCalls(t, "b{052oe},c{72*r}", asked{"(400,0)", "1,0,20,b1"}, asked{"(0)", "20"})
	// Where f leaves gas it is there again.
	wantCalls(t, "b{0b2o0b2o0b2o},c{72*f}", asked{"(400,0)", "1,0,48"}, asked{"(48,0)", "1,0,48"}, asked{"(47,0)", "1,0,47"}, asked{"(43,0)", "1,0,43"}, asked{"(42,0)", "0,0,42"}, asked{"(0)", "43"})
}

func TestDepth(t *testing.T) {
	// b runs itself: at depth 4 o runs nothing and costs its 8 alone.
	wantCalls(t, "b{1e0byoe}", asked{"(400,0)", "1,0,80,b1,b1,b1,b1,b0,b1,b1,b1"}, asked{"(80,0)", "1,0,80,b1,b1,b1,b1,b0,b1,b1,b1"}, asked{"(79,0)", "0,0,79"}, asked{"(0)", "80"})
	// What it would run makes no difference there: nothing, or a failure.
	wantCalls(t, "b{k1+byo+r},c{f}", asked{"(400,0)", "1,3,60"})
	// By way of c, f would be run at depth 5, and is not; by way of d it is, at 4.
	chain := "b{kb2oek1+b3oppke},c{kb3oe},d{kb4oe},e{kb5oe},f{9e}"
	wantCalls(t, chain, asked{"(400,7)", "1,0,115,e0,d1,c1,b1,f9,e1,d1,b7"})
	// The run at depth 4 is done, that at depth 5 is not.
	wantCalls(t, "b{kb2opr},c{kb3opr},d{kb4opr},e{k5+r}", asked{"(400,4)", "1,9,43"}, asked{"(4)", "43"})
	wantCalls(t, "b{kb2opr},c{kb3opr},d{kb4opr},e{kb5o+r},f{k5+r}", asked{"(400,4)", "1,0,52"}, asked{"(4)", "52"})
	// At depth 4 o takes its three numbers too, and costs its 8.
	wantCalls(t, "b{kb2o+r},c{kb3o+r},d{kb4o+r},e{8kb5oppr},f{9r}", asked{"(400,4)", "1,11,54"})
	wantCalls(t, "b{kb2o+r},c{kb3o+r},d{kb4o+r},e{kbo8r},f{9r}", asked{"(400,4)", "0,0,400"})
	wantCalls(t, "b{kb2o+r},c{kb3o+r},d{k94o+r},e{kb5of},f{9r}", asked{"(400,4)", "1,2,48"})
	// A run at depth 2 that has ended leaves room for others.
	wantCalls(t, "b{"+strings.Repeat("kb2op", 6)+"+++++r},c{1r}", asked{"(400,0)", "1,6,90"})
}

// What a run that fails has changed is as it was ahead of it; what was changed
// outside of it is kept.
func TestFailuresChangeNothing(t *testing.T) {
	for _, c := range []struct{ batch, want string }{
		// c stores, logs and pays, and fails in each way.
		{"i0:h/b{50t3e092oe0le},c{70t4e61vf},a:b(400,0);l1;d0:1;g1:b0", "1;b3,b0,b5;a$,b$,b{,b0,c$,c{,h$;5"},
		{"i0:h/b{50t3e0992**2oe0le},c{70t4e61v+++},a:b(400,0);l1;d0:1;u1", "1;b3,b0,b5;a$,b$,b{,b0,c$,c{,h$;1:20,1:20,1:214"},
		{"i0:h/b{50t3e0992**2oe0le},c{70t4e61v19j},a:b(400,0);l1;d0:1", "1;b3,b0,b5;a$,b$,b{,b0,c$,c{,h$"},
		{"i0:h/b{50t3e055*2oe0le},c{70t4e61vkkkkkkkk},a:b(400,0);l1;d0:1", "1;b3,b0,b5;a$,b$,b{,b0,c$,c{,h$"},
		// It ends well: all is kept.
		{"i0:h/b{50t3e0992**2oe0le},c{70t4e61v8r},a:b(400,0);l1;d0:1;g1:b0;g1:c0;b1:b;b1:c", "1;b3,c4,b1,b5;a$,b$,b{,b0,c$,c{,c0,h$;5;7;986;974"},
		// d ends well within c, which fails: d's changes are none either.
		{"i0:h/b{50t3e0b2oe},c{70t4e0b3oef},d{80t9e52v},a:b(400,0);l1;d0:1", "1;b3,b0;a$,b$,b{,b0,c$,c{,d$,d{,h$"},
		{"i0:h/b{50t3e0b2oe},c{70t4e0b3oe},d{80t9e52v},a:b(400,0);l1;d0:1;g1:c0;g1:d0;b1:c;b1:d", "1;b3,c4,d9,c1,b1;a$,b$,b{,b0,c$,c{,c0,d$,d{,d0,h$;7;8;985;975"},
		// d fails within c, which ends well: only d's changes are none.
		{"i0:h/b{50t3e0b2oe},c{70t4e0b3oe},d{80t9e52vf},a:b(400,0);l1;d0:1;b1:c;b1:d", "1;b3,c4,c0,b1;a$,b$,b{,b0,c$,c{,c0,d$,d{,h$;980;980"},
		// b fails: nothing is left of any.
		{"i0:h/b{50t3e0b2oef},c{70t4e0b3oe},d{80t9e52v},a:b(400,0);l1;d0:1;u1", "1;-;a$,b$,b{,c$,c{,d$,d{,h$;1:20,1:20,1:20,0:90"},
		// A slot that had been stored into has what it had, not 0.
		{"i0:h/b{k0t},a:b(99,6),b{90t0lef},a:b(99,6),b{0le},a:b(99,0);l1;g1:b0", "1;b6;6"},
		// c stores into b's slot by way of b, and fails or not.
		{"i0:h/b{k66+j0b2o0lek0t},c{4b1of},a:b(400,0);l1;g1:b0", "1;b0;0"},
		{"i0:h/b{k66+j0b2o0lek0t},c{4b1o},a:b(400,0);l1;g1:b0", "1;b4;0"},
		// Logs that were dropped do not come back behind others.
		{"i0:h/b{1e0b2oe2e0b2oe3e},c{7e8e9ef},a:b(400,0);l1", "1;b1,b0,b2,b0,b3"},
	} {
		onEach(t, func(t *testing.T, a *Attic) { wantAnswer(t, a, c.batch, c.want) })
	}
}

// A run sees at once what runs within it have changed.
func TestChangesAreSeen(t *testing.T) {
	wantCalls(t, "b{bebb2obe},c{k2/1v}", asked{"(400,0)", "1,0,34,b980,b1470"})
	wantCalls(t, "b{be0b2obe},c{b1v}", asked{"(400,0)", "1,0,31,b980,b1960"})
	wantCalls(t, "b{be0b2obe},c{b1vf}", asked{"(400,0)", "1,0,32,b980,b980"})
	wantCalls(t, "b{0l1+0t0l4<d0jp0le}", asked{"(400,0)", "1,0,101,b4"})
}
