package attic

import (
	"encoding/binary"
	"fmt"
	"hash/fnv"
	"maps"
	"math/big"
	"regexp"
	"slices"
	"strconv"
	"strings"
)

// plain is a second reading of the document, to hold the program against: the
// requests are done one after the other, by whoever asks.
type plain []plainVersion

type plainVersion struct {
	balance map[string]int
	program map[string]string
	slots   map[string]*big.Int // by the account and the slot, where something was stored
	logs    []string
	uses    []string
	height  int
}

var (
	paymentForm     = regexp.MustCompile(`\A(.)>(.)=(\d+)\z`)
	programForm     = regexp.MustCompile(`\A(.)\{(.*)\}\z`)
	transactionForm = regexp.MustCompile(`[a-h](>[^,]*|\{[^}]*\}|:[^)]*\))`)
	callForm        = regexp.MustCompile(`\A(.)[:>](.)\((?:(\d+),)?(\d+)\)\z`)
)

func newPlain() *plain {
	first := plainVersion{balance: map[string]int{}, program: map[string]string{}, slots: map[string]*big.Int{}}
	for _, name := range strings.Split("abcdefgh", "") {
		first.balance[name] = 1000
	}
	return &plain{first}
}

// copied answers the version's state, with no logs and uses.
func (v plainVersion) copied() plainVersion {
	return plainVersion{balance: maps.Clone(v.balance), program: maps.Clone(v.program), slots: maps.Clone(v.slots), height: v.height}
}

func (p *plain) ask(batch string) string {
	var answers []string
	for _, request := range strings.Split(batch, ";") {
		answers = append(answers, p.answer(request))
	}
	return strings.Join(answers, ";")
}

func (p *plain) answer(request string) string {
	name, rest, _ := strings.Cut(request[1:], ":")
	v, there := p.version(name)
	if !there {
		return "!3"
	}
	switch request[0] {
	case 'i':
		return p.add(v, rest)
	case 'g':
		return v.slot(rest).String()
	case 'b':
		return strconv.Itoa(v.balance[rest])
	case 'r':
		return v.digest()
	case 'l':
		return orDash(v.logs)
	case 'u':
		return orDash(v.uses)
	case 'c', 'm':
		m := callForm.FindStringSubmatch(rest)
		n, _ := strconv.Atoi(m[3])
		k, _ := strconv.ParseInt(m[4], 10, 64)
		if request[0] == 'm' {
			return v.least(m[1], m[2], k)
		}
		if n > 400 {
			return "!6"
		}
		return v.would(m[1], m[2], n, k)
	}
	w, there := p.version(rest)
	if !there {
		return "!3"
	}
	var all []string
	for _, name := range strings.Split("abcdefgh", "") {
		if v.balance[name] != w.balance[name] {
			all = append(all, name+"$")
		}
		if v.program[name] != w.program[name] {
			all = append(all, name+"{")
		}
		for _, slot := range strings.Split("0123456789abcdef", "") {
			if v.slot(name+slot).Cmp(w.slot(name+slot)) != 0 {
				all = append(all, name+slot)
			}
		}
	}
	return orDash(all)
}

func orDash(texts []string) string {
	if texts == nil {
		return "-"
	}
	return strings.Join(texts, ",")
}

func (p *plain) version(name string) (plainVersion, bool) {
	if name == "h" {
		// The first of the greatest is the one with the lowest number.
		return slices.MaxFunc(*p, func(v, w plainVersion) int { return v.height - w.height }), true
	}
	n, _ := strconv.Atoi(name)
	if n >= len(*p) {
		return plainVersion{}, false
	}
	return (*p)[n], true
}

func (p *plain) add(v plainVersion, block string) string {
	if len(*p) == 40 {
		return "!4"
	}
	next := v.copied()
	next.height++
	miner, all, _ := strings.Cut(block, "/")
	for _, tx := range transactionForm.FindAllString(all, -1) {
		if !next.do(tx, miner) {
			return "!5"
		}
	}
	next.balance[miner] += 50
	*p = append(*p, next)
	return strconv.Itoa(len(*p) - 1)
}

func (v *plainVersion) do(tx, miner string) bool {
	if m := callForm.FindStringSubmatch(tx); m != nil {
		n, _ := strconv.Atoi(m[3])
		k, _ := strconv.ParseInt(m[4], 10, 64)
		return v.call(m[1], m[2], n, k, miner)
	}
	x := tx[:1]
	cost, gas := 20, 20
	if m := paymentForm.FindStringSubmatch(tx); m != nil {
		n, _ := strconv.Atoi(m[3])
		cost, gas = n+10, 10
		defer func() { v.balance[m[2]] += n }()
	} else {
		v.program[x] = programForm.FindStringSubmatch(tx)[2]
	}
	if v.balance[x] < cost {
		return false
	}
	v.balance[x] -= cost
	v.balance[miner] += gas
	v.uses = append(v.uses, fmt.Sprintf("1:%d", gas))
	return true
}

func (v *plainVersion) digest() string {
	var accounts []uint64
	for _, name := range strings.Split("abcdefgh", "") {
		var slots [16]uint64
		for i := range slots {
			slots[i] = v.slot(fmt.Sprintf("%s%x", name, i)).Uint64()
		}
		accounts = append(accounts, plainAccount(uint64(v.balance[name]), v.program[name], slots))
	}
	return fmt.Sprintf("%016x", plainTree(accounts))
}

func plainAccount(balance uint64, program string, slots [16]uint64) uint64 {
	var leaves []uint64
	for _, held := range slots {
		leaves = append(leaves, plainHash("", held))
	}
	return plainHash(program, balance, plainTree(leaves))
}

// plainHash: what the document takes in is the hash FNV-1a of 64 bits, of the
// numbers and then of the text.
func plainHash(text string, numbers ...uint64) uint64 {
	h := fnv.New64a()
	for _, n := range numbers {
		h.Write(binary.BigEndian.AppendUint64(nil, n))
	}
	h.Write([]byte(text))
	return h.Sum64()
}

func plainTree(l []uint64) uint64 {
	if len(l) == 1 {
		return l[0]
	}
	return plainHash("", plainTree(l[:len(l)/2]), plainTree(l[len(l)/2:]))
}
