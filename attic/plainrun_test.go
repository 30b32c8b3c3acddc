package attic

import (
	"fmt"
	"math/big"
	"strconv"
	"strings"
)

// plainRun is the second reading of the section Programs: its numbers are
// great ones, it works on a state of its own, and a failure is a panic.
type plainRun struct {
	plainVersion
	x, y  string
	k     *big.Int
	depth int
	given int
	used  int
	stack []*big.Int
}

// plainFailure is what a run that fails panics with: the gas that is used.
type plainFailure int

var (
	plainRound = new(big.Int).Lsh(big.NewInt(1), 64)
	plainCosts = map[int]string{1: "0123456789+-<=dxpkcybrf", 2: "*/j", 3: "l", 4: "e", 6: "t", 8: "vo"}
)

func (v *plainVersion) slot(name string) *big.Int {
	if held, there := v.slots[name]; there {
		return held
	}
	return new(big.Int)
}

func (v *plainVersion) call(x, y string, n int, k int64, miner string) bool {
	if n < 10 || n > 400 || v.balance[x] < n {
		return false
	}
	v.balance[x] -= n
	ended, _, used := v.run(x, y, n-10, big.NewInt(k), 1)
	v.balance[x] += n - 10 - used
	v.balance[miner] += 10 + used
	v.uses = append(v.uses, fmt.Sprintf("%d:%d", ended, 10+used))
	return true
}

func (v plainVersion) would(x, y string, n int, k int64) string {
	tried := v.copied()
	ended, value, used := tried.run(x, y, n, big.NewInt(k), 1)
	return strings.Join(append([]string{fmt.Sprintf("%d,%d,%d", ended, value, used)}, tried.logs...), ",")
}

func (v plainVersion) least(x, y string, k int64) string {
	for n := 0; n <= 400; n++ {
		if strings.HasPrefix(v.would(x, y, n, k), "1") {
			return strconv.Itoa(n)
		}
	}
	return "-"
}

// run answers 1 if it ends well, else 0; the value; and the gas used.
func (v *plainVersion) run(x, y string, gas int, k *big.Int, depth int) (ended int, value *big.Int, used int) {
	r := &plainRun{plainVersion: v.copied(), x: x, y: y, k: k, depth: depth, given: gas}
	defer func() {
		switch failure := recover().(type) {
		case nil:
			logs := append(v.logs, r.logs...)
			uses := v.uses
			*v = r.plainVersion
			v.logs, v.uses = logs, uses
		case plainFailure:
			ended, value, used = 0, new(big.Int), int(failure)
		default:
			panic(failure)
		}
	}()
	value = r.steps(r.program[y])
	return 1, value, r.used
}

// fail fails with all the gas used.
func (r *plainRun) fail() { panic(plainFailure(r.given)) }

func (r *plainRun) take() *big.Int {
	if len(r.stack) == 0 {
		r.fail()
	}
	p := r.stack[0]
	r.stack = r.stack[1:]
	return p
}

// put puts a number modulo 2^64 ahead of the others: the top is the first.
func (r *plainRun) put(n *big.Int) {
	r.stack = append([]*big.Int{new(big.Int).Mod(n, plainRound)}, r.stack...)
	if len(r.stack) > 32 {
		r.fail()
	}
}

func (r *plainRun) putInt(n int) { r.put(big.NewInt(int64(n))) }

// modulo answers the letter for a number among those of names.
func modulo(n *big.Int, names string) string {
	i := new(big.Int).Mod(n, big.NewInt(int64(len(names)))).Int64()
	return names[i : i+1]
}

func (r *plainRun) pay(step byte) {
	for cost, steps := range plainCosts {
		if strings.IndexByte(steps, step) >= 0 {
			if r.given-r.used < cost {
				r.fail()
			}
			r.used += cost
		}
	}
}

func (r *plainRun) steps(program string) *big.Int {
	for at := 0; at < len(program); {
		step := program[at]
		at++
		r.pay(step)
		switch step {
		case 'r':
			return r.take()
		case 'f':
			panic(plainFailure(r.used))
		case 'j':
			s, p := r.take(), r.take()
			if p.Sign() == 0 {
				continue
			}
			if s.Cmp(big.NewInt(int64(len(program)))) > 0 {
				r.fail()
			}
			at = int(s.Int64())
		default:
			r.step(step)
		}
	}
	return new(big.Int)
}

func (r *plainRun) step(step byte) {
	switch step {
	case '+', '-', '*', '/', '<', '=':
		q, p := r.take(), r.take()
		r.reckon(step, p, q)
	case 'd':
		p := r.take()
		r.put(p)
		r.put(p)
	case 'x':
		q, p := r.take(), r.take()
		r.put(q)
		r.put(p)
	case 'p':
		r.take()
	case 'k':
		r.put(r.k)
	case 'c':
		r.putInt(int(r.x[0] - 'a'))
	case 'y':
		r.putInt(int(r.y[0] - 'a'))
	case 'b':
		r.putInt(r.balance[r.y])
	case 'l':
		r.put(r.slot(r.y + modulo(r.take(), "0123456789abcdef")))
	case 't':
		s, p := r.take(), r.take()
		r.slots[r.y+modulo(s, "0123456789abcdef")] = p
	case 'v':
		s, p := r.take(), r.take()
		if p.Cmp(big.NewInt(int64(r.balance[r.y]))) > 0 {
			r.putInt(0)
			return
		}
		r.balance[r.y] -= int(p.Int64())
		r.balance[modulo(s, "abcdefgh")] += int(p.Int64())
		r.putInt(1)
	case 'e':
		r.logs = append(r.logs, r.y+r.take().String())
	case 'o':
		s, p, k := r.take(), r.take(), r.take()
		r.runWithin(modulo(s, "abcdefgh"), p, k)
	default:
		r.putInt(int(step - '0'))
	}
}

func (r *plainRun) reckon(step byte, p, q *big.Int) {
	switch step {
	case '+':
		r.put(new(big.Int).Add(p, q))
	case '-':
		r.put(new(big.Int).Sub(p, q))
	case '*':
		r.put(new(big.Int).Mul(p, q))
	case '/':
		if q.Sign() == 0 {
			r.putInt(0)
			return
		}
		r.put(new(big.Int).Div(p, q))
	case '<':
		r.putInt(map[bool]int{true: 1}[p.Cmp(q) < 0])
	case '=':
		r.putInt(map[bool]int{true: 1}[p.Cmp(q) == 0])
	}
}

func (r *plainRun) runWithin(y string, p, k *big.Int) {
	if r.depth == 4 {
		r.putInt(0)
		r.putInt(0)
		return
	}
	gas := r.given - r.used
	if p.Cmp(big.NewInt(int64(gas))) < 0 {
		gas = int(p.Int64())
	}
	ended, value, used := r.plainVersion.run(r.y, y, gas, k, r.depth+1)
	r.used += used
	r.put(value)
	r.putInt(ended)
}
