package attic

import (
	"regexp"
	"strings"
	"testing"
)

// many answers a text n times, with mark between each two.
func many(text, mark string, n int) string {
	return strings.TrimSuffix(strings.Repeat(text+mark, n), mark)
}

func wantOK(t *testing.T, batch string) {
	t.Helper()
	if e, at := Check(batch); e != OK || at != 0 {
		t.Errorf("Check(%.90q) = %d, %d, want OK, 0", batch, e, at)
	}
}

func wantForm(t *testing.T, batch string, place int) {
	t.Helper()
	if e, at := Check(batch); e != ErrForm || at != place {
		t.Errorf("Check(%.90q) = %d, %d, want ErrForm, %d", batch, e, at, place)
	}
}

func TestErrorNumbers(t *testing.T) {
	for i, e := range []Errno{OK, ErrLong, ErrForm, ErrVersion, ErrFull, ErrTx, ErrArg, ErrWorkers} {
		if int(e) != i {
			t.Errorf("the error of place %d has the number %d", i, e)
		}
	}
}

func TestCheckExamples(t *testing.T) {
	wantOK(t, "b0:a;rh")
	wantForm(t, "b0:i", 3)
	wantForm(t, "b0", 2)
	wantForm(t, "b100:a", 3)
	wantForm(t, "b0:a;", 5)
	wantForm(t, "i0:a/a>b=07", 10)
	wantForm(t, "i0:a/a{z}", 7)
}

// The other examples of the document ask batches, so they are batches.
func TestCheckAskedExamples(t *testing.T) {
	for _, batch := range []string{
		"b0:a;b1:a;g0:h0;u0;l0;d0:h",
		"i0:a/b>c=5;bh:a;bh:b;b1:c;u1;d0:1",
		"i0:a/b>c=991",
		"i0:a/b>b=990",
		"i0:a/b{kd*r};c1:c>b(9,12);m1:c>b(12);c1:c>b(3,12)",
		"i0:a/b{k0t7r},c:b(30,5),c:b(16,6),c:b(9,1)",
		"u1;g1:b0;b1:c;b1:a",
		"i0:a/b{1e2ef},c{3e091oe7r};c1:d>c(99,0)",
		"i0:a/;i0:b/;rh;i2:c/;dh:1;dh:0;bh:a",
		"i0:a/b{0j}",
		"i0:a/b{10j}",
		"i0:a/b{k9j55+r}",
	} {
		wantOK(t, batch)
	}
}

func TestCheckEveryKind(t *testing.T) {
	for _, version := range []string{"h", "0", "1", "9", "10", "39", "40", "99"} {
		for _, shape := range []string{"i%:a/", "g%:a0", "b%:a", "c%:a>b(0,0)", "m%:a>b(0)", "r%", "l%", "u%", "d%:0", "d0:%"} {
			wantOK(t, strings.ReplaceAll(shape, "%", version))
		}
	}
	for _, number := range []string{"0", "1", "10", "400", "401", "100000", "999999"} {
		for _, shape := range []string{"c0:a>b(%,0)", "c0:a>b(0,%)", "m0:a>b(%)", "i0:a/a>b=%", "i0:a/a:b(%,0)", "i0:a/a:b(0,%)", "i0:a/a>b=%,a>b=%;rh"} {
			wantOK(t, strings.ReplaceAll(shape, "%", number))
		}
	}
	wantOK(t, "i0:a/;i0:a/a{};i0:a/a>a=0,b{},c:c(0,0),d{r},e>f=7;rh;rh")
}

// Each byte at a place where one of few can stand, held against the few.
func TestCheckEveryByte(t *testing.T) {
	const accounts, digits, steps = "abcdefgh", "0123456789", "0123456789+-*/<=dxpkcybltjveorf"
	for _, c := range []struct{ ahead, behind, right string }{
		{"", "0:0", "d"}, {"", "0", "rlu"}, {"", "0:a", "b"}, {"", "0:a0", "g"},
		{"r", "", digits + "h"}, {"b", ":a", digits + "h"}, {"d0:", "", digits + "h"},
		{"b0", "a", ":"}, {"b0:", "", accounts}, {"g0:", "0", accounts}, {"g0:a", "", digits + "abcdef"},
		{"c0:", ">b(0,0)", accounts}, {"c0:a", "b(0,0)", ">"}, {"c0:a>", "(0,0)", accounts}, {"c0:a>b", "0,0)", "("},
		{"c0:a>b(", ",0)", digits}, {"c0:a>b(0", "0)", ","}, {"c0:a>b(0,", ")", digits}, {"c0:a>b(0,0", "", ")"},
		{"m0:a>b(", ")", digits}, {"m0:a>b(0", "", ")"},
		{"i0:", "/", accounts}, {"i0:a", "", "/"},
		{"i0:a/", ">a=0", accounts}, {"i0:a/a", "b=0", ">"}, {"i0:a/a", "}", "{"}, {"i0:a/a", "b(0,0)", ":"},
		{"i0:a/a>", "=0", accounts}, {"i0:a/a>b", "0", "="}, {"i0:a/a>b=", "", digits},
		{"i0:a/a{", "}", steps}, {"i0:a/a{k", "}", steps}, {"i0:a/a{", "", "}"},
		{"i0:a/a:", "(0,0)", accounts}, {"i0:a/a:b(", ",0)", digits}, {"i0:a/a:b(0,", ")", digits},
		{"i0:a/a{},", "{}", accounts}, {"rh", "rh", ";"}, {"i0:a/a{}", "rh", ";"}, {"i0:a/", "rh", ";"}, {"i0:a/a{}", "a{}", ","},
	} {
		for b := range 256 {
			e, _ := Check(c.ahead + string([]byte{byte(b)}) + c.behind)
			if right := strings.IndexByte(c.right, byte(b)) >= 0; right != (e == OK) {
				t.Errorf("Check of %q, the byte %q, %q: %d", c.ahead, byte(b), c.behind, e)
			}
		}
	}
}

func TestCheckLength(t *testing.T) {
	right := many("i0:a/a{},b{"+strings.Repeat("k", 37)+"}", ";", 23) + ";i0:a/a{},b{" + strings.Repeat("k", 38) + "}"
	if len(right) != 1200 {
		t.Fatalf("the text has %d bytes", len(right))
	}
	wantOK(t, right)
	wantForm(t, strings.Repeat("z", 1200), 0)
	wantForm(t, right[:1199]+"z", 1199)
	wantForm(t, right[:1199]+"k", 1200)
	for _, batch := range []string{right + "0", right + ";", strings.Repeat("z", 1201), strings.Repeat("\u00e9", 601), strings.Repeat("rh;", 1<<20), strings.Repeat("\x00", 1<<24)} {
		if e, at := Check(batch); e != ErrLong || at != 0 {
			t.Errorf("Check of %d bytes = %d, %d, want ErrLong, 0", len(batch), e, at)
		}
	}
}

func TestCheckBounds(t *testing.T) {
	wantOK(t, "")
	wantForm(t, ";", 0)

	wantOK(t, "r99")
	wantForm(t, "r990", 3)
	wantForm(t, "r99h", 3)
	wantForm(t, "d10:100", 6)
	wantForm(t, "d100:1", 3)
	wantForm(t, "r00", 2)
	wantForm(t, "r07", 2)
	wantForm(t, "rh1", 2)
	wantForm(t, "rhh", 2)

	wantOK(t, "m0:a>b(123456)")
	wantForm(t, "m0:a>b(1234567)", 13)
	wantForm(t, "m0:a>b(00)", 8)
	wantForm(t, "c0:a>b(1234567,1)", 13)
	wantForm(t, "c0:a>b(1,1234567)", 15)
	wantForm(t, "i0:a/a>b=1234567", 15)
	wantForm(t, "i0:a/a:b(1234567,0)", 15)
	wantForm(t, "i0:a/a:b(0,1234567)", 17)

	for _, tx := range []string{"a>b=1", "a>b=123456", "a{}", "a{kr}", "a:b(10,1)"} {
		block := "i0:a/" + many(tx, ",", 8)
		wantOK(t, block)
		wantOK(t, block+";"+block)
		wantForm(t, block+",", len(block))
		wantForm(t, block+","+tx, len(block))
		wantForm(t, "rh;"+block+";"+block+","+tx, 4+2*len(block))
	}

	forty := strings.Repeat("7", 40)
	wantOK(t, "i0:a/a{"+forty+"}")
	wantOK(t, "i0:a/a{"+forty+"},a{"+forty+"};i0:a/a{"+forty+"}")
	wantForm(t, "i0:a/a{"+forty, 47)
	wantForm(t, "i0:a/a{"+forty+"7}", 47)
	wantForm(t, "i0:a/a{"+forty+"z}", 47)
	wantForm(t, "i0:a/a{"+forty+"},b{"+forty+"7}", 91)

	for _, request := range []string{"rh", "r7", "b0:a", "i0:a/", "i0:a/a>b=5", "d0:10"} {
		batch := many(request, ";", 24)
		wantOK(t, batch)
		wantForm(t, batch+";", len(batch))
		wantForm(t, batch+";"+request, len(batch))
	}
}

func TestCheckWrong(t *testing.T) {
	for _, c := range []struct {
		batch string
		place int
	}{
		{" ", 0}, {"rh\n", 2}, {"\x00", 0}, {"\xff", 0}, {"r\u0660", 1}, {"rh;\u00e9", 3}, {"B0:a", 0}, {"bH:a", 1}, {"b0:A", 3},
		{"rh;;rh", 3}, {"rh,rh", 2}, {"b0:a,b0:a", 4}, {"b0:aa", 4}, {"b:a", 1}, {"b-1:a", 1}, {"b+1:a", 1},
		{"g0:0a", 3}, {"g0:ag", 4}, {"g0:a10", 5}, {"c0:a>b(1)", 8}, {"c0:a>b(,1)", 7}, {"c0:a>b(1,)", 9}, {"c0:a>b(1,2,3)", 10}, {"c0:a:b(1,2)", 4},
		{"m0:a>b()", 7}, {"m0:a>b(1,2)", 8}, {"m0:a>b(h)", 7}, {"r0:a", 2}, {"l0:0", 2}, {"u0,u0", 2}, {"d0:i", 3}, {"d0;rh", 2}, {"d0:0:0", 4},
		{"i0:a", 4}, {"i0:a;", 4}, {"i0:a/,", 5}, {"i0:a/,a{}", 5}, {"i0:a/a{},,a{}", 9}, {"i0:a/a{},;rh", 9}, {"i0:a/i{}", 5}, {"i0:a/a=b>5", 6},
		{"i0:a/a>b:5", 8}, {"i0:a/a>b=-5", 9}, {"i0:a/a>b=5.", 10}, {"i0:a/a{}}", 8}, {"i0:a/a{{}}", 7}, {"i0:a/a{k,k}", 8}, {"i0:a/a{a}", 7},
		{"i0:a/a:b(1)", 10}, {"i0:a/a:b(1,2)3", 13}, {"i0:a/a:b{}", 8}, {"i0:a/a>b(1,2)", 8},
	} {
		wantForm(t, c.batch, c.place)
	}
}

func TestCheckEndsTooEarly(t *testing.T) {
	for _, c := range []struct{ batch, whole string }{
		{"g0:a0", "g0:a0"}, {"b12:h", "b12:h"}, {"ch:a>b(12,345)", "ch:a>b(12,345)"}, {"m0:a>b(7)", "m0:a>b(7)"},
		{"d0:h", "d0:h"}, {"r0", "r0"}, {"lh", "lh"}, {"u9", "u9"}, {"i0:a/", "i0:a/"},
		{"i0:a/b{kr}", "b{kr}"}, {"i0:a/b:c(30,5)", "b:c(30,5)"}, {"i0:a/b{},c>d=1", ",c>d=1"}, {"rh;b0:a", ";b0:a"},
	} {
		wantOK(t, c.batch)
		for end := len(c.batch) - len(c.whole) + 1; end < len(c.batch); end++ {
			wantForm(t, c.batch[:end], end)
		}
	}
}

const (
	versionForm = `(?:h|0|[1-9][0-9]?)`
	numberForm  = `(?:0|[1-9][0-9]{0,5})`
	stepsForm   = `[-0-9+*/<=dxpkcybltjveorf]{0,40}`
	pairForm    = `\(` + numberForm + `,` + numberForm + `\)`
	txForm      = `[a-h](?:>[a-h]=` + numberForm + `|\{` + stepsForm + `\}|:[a-h]` + pairForm + `)`
	blockForm   = `(?:` + txForm + `(?:,` + txForm + `){0,7})?`
)

var requestForm = regexp.MustCompile(`\A(?:` +
	`i` + versionForm + `:[a-h]/` + blockForm +
	`|g` + versionForm + `:[a-h][0-9a-f]` +
	`|b` + versionForm + `:[a-h]` +
	`|c` + versionForm + `:[a-h]>[a-h]` + pairForm +
	`|m` + versionForm + `:[a-h]>[a-h]\(` + numberForm + `\)` +
	`|[rlu]` + versionForm +
	`|d` + versionForm + `:` + versionForm + `)\z`)

// isBatch reads the document's tables another way than the program does.
func isBatch(text string) bool {
	if text == "" {
		return true
	}
	requests := strings.Split(text, ";")
	for _, request := range requests {
		if !requestForm.MatchString(request) {
			return false
		}
	}
	return len(requests) <= 24
}

// canGoOn tells whether a text is a batch or the beginning of one: each
// beginning is made whole by the tail of one of a few texts.
func canGoOn(text string) bool {
	for _, tail := range []string{"r0", "0:a", "0:a/", "0:a0", "0:a>a(0,0)", "0:a>a(0)", "0:0", "a>a=0", "}"} {
		for i := range len(tail) + 1 {
			if isBatch(text + tail[i:]) {
				return true
			}
		}
	}
	return false
}

// placeOf finds the first byte that cannot stand there by trying what can
// follow each beginning.
func placeOf(text string) (Errno, int) {
	if isBatch(text) {
		return OK, 0
	}
	for end := 1; end <= len(text); end++ {
		if !canGoOn(text[:end]) {
			return ErrForm, end - 1
		}
	}
	return ErrForm, len(text)
}

// Each small change of right batches, held against the other reading.
func TestCheckChangedBatches(t *testing.T) {
	const bytes = "0179ahfikrxz:;,/>=(){}+- \xff"
	for _, batch := range []string{
		"b10:a;rh", "gh:af;l0;u12", "ch:a>b(12,0)", "m1:c>b(123456)", "d0:h;dh:10", "i0:a/;rh",
		"i0:a/b>c=5;bh:a", "i12:a/b{kd*r},c:b(30,5)", "i0:a/b{},c{r}",
	} {
		for at := range len(batch) + 1 {
			texts := []string{batch[:at]}
			for i := range len(bytes) {
				texts = append(texts, batch[:at]+bytes[i:i+1]+batch[at:])
				if at < len(batch) {
					texts = append(texts, batch[:at]+bytes[i:i+1]+batch[at+1:])
				}
			}
			if at < len(batch) {
				texts = append(texts, batch[:at]+batch[at+1:])
			}
			for _, text := range texts {
				e, place := Check(text)
				if wantE, wantPlace := placeOf(text); e != wantE || place != wantPlace {
					t.Errorf("Check(%q) = %d, %d, want %d, %d", text, e, place, wantE, wantPlace)
				}
			}
		}
	}
}
