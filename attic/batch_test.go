package attic

import (
	"fmt"
	"strings"
	"testing"
)

// told tells a request with all that was read of it.
func told(q *request) string {
	text := fmt.Sprintf("%d v%d w%d x%d y%d n%d k%d s%d", q.kind, q.v, q.w, q.x, q.y, q.n, q.k, q.slot)
	for _, t := range q.block {
		text += fmt.Sprintf(", %d x%d y%d n%d k%d %q", t.kind, t.x, t.y, t.n, t.k, t.program)
	}
	return text
}

func TestReadBatch(t *testing.T) {
	for _, c := range []struct {
		batch string
		want  []string
	}{
		{"", nil},
		{"rh", []string{"6 v-1 w0 x0 y0 n0 k0 s0"}},
		{"r0;l7;u40;r99", []string{"6 v0 w0 x0 y0 n0 k0 s0", "7 v7 w0 x0 y0 n0 k0 s0", "8 v40 w0 x0 y0 n0 k0 s0", "6 v99 w0 x0 y0 n0 k0 s0"}},
		{"g12:b0;gh:h9;g0:aa;g0:gf", []string{"2 v12 w0 x1 y0 n0 k0 s0", "2 v-1 w0 x7 y0 n0 k0 s9", "2 v0 w0 x0 y0 n0 k0 s10", "2 v0 w0 x6 y0 n0 k0 s15"}},
		{"b3:h", []string{"3 v3 w0 x7 y0 n0 k0 s0"}},
		{"c1:c>b(123456,987654);ch:a>h(0,10)", []string{"4 v1 w0 x2 y1 n123456 k987654 s0", "4 v-1 w0 x0 y7 n0 k10 s0"}},
		{"m10:f>e(999999)", []string{"5 v10 w0 x5 y4 n0 k999999 s0"}},
		{"d10:h;dh:21;d3:3", []string{"9 v10 w-1 x0 y0 n0 k0 s0", "9 v-1 w21 x0 y0 n0 k0 s0", "9 v3 w3 x0 y0 n0 k0 s0"}},
		{"i0:d/;i1:e/", []string{"1 v0 w0 x3 y0 n0 k0 s0", "1 v1 w0 x4 y0 n0 k0 s0"}},
		{"i11:h/a>b=100000,c{kd*r},d{},e:f(30,5),g{0},h>a=0;b0:a", []string{
			`1 v11 w0 x7 y0 n0 k0 s0, 1 x0 y1 n100000 k0 "", 2 x2 y0 n0 k0 "kd*r", 2 x3 y0 n0 k0 "", 3 x4 y5 n30 k5 "", 2 x6 y0 n0 k0 "0", 1 x7 y0 n0 k0 ""`,
			"3 v0 w0 x0 y0 n0 k0 s0"}},
	} {
		requests, _, whole := readBatch(c.batch)
		var got []string
		for _, q := range requests {
			got = append(got, told(q))
		}
		if !whole || strings.Join(got, "\n") != strings.Join(c.want, "\n") {
			t.Errorf("%q is read as\n%s\nwant\n%s", c.batch, strings.Join(got, "\n"), strings.Join(c.want, "\n"))
		}
	}
}
