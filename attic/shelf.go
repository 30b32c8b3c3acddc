package attic

import (
	"slices"
	"strconv"
	"strings"
)

// shelf holds the versions that there are at one time, by their numbers.
type shelf []*version

func firstShelf() shelf { return shelf{{ledger: ledger{state: firstState()}}} }

// with answers another shelf: this one may still be read.
func (s shelf) with(v *version) shelf { return append(slices.Clip(s), v) }

func (s shelf) head() *version {
	head := s[0]
	for _, v := range s {
		if v.height > head.height {
			head = v
		}
	}
	return head
}

// find answers the version of a name, or nil if there is none.
func (s shelf) find(name int) *version {
	switch {
	case name == headName:
		return s.head()
	case name < len(s):
		return s[name]
	}
	return nil
}

// add makes an import: it answers the shelf behind it, and the answer to it.
func (s shelf) add(q *request) (shelf, string) {
	base := s.find(q.v)
	if base == nil {
		return s, refusal(ErrVersion)
	}
	if len(s) == maxVersions {
		return s, refusal(ErrFull)
	}
	made := base.next(q.x, q.block)
	if made == nil {
		return s, refusal(ErrTx)
	}
	return s.with(made), strconv.Itoa(len(s))
}

// answer answers a question.
func (s shelf) answer(q *request) string {
	v := s.find(q.v)
	if v == nil {
		return refusal(ErrVersion)
	}
	switch q.kind {
	case requestSlot:
		return decimal(v.state[q.x].slots[q.slot])
	case requestBalance:
		return decimal(v.state[q.x].balance)
	case requestCall:
		if q.n > maxGas {
			return refusal(ErrArg)
		}
		return v.callText(q.x, q.y, uint64(q.n), uint64(q.k))
	case requestLeastGas:
		return v.leastGasText(q.x, q.y, uint64(q.k))
	case requestDigest:
		return hexadecimal(v.state.digest())
	case requestLogs:
		return list(logTexts(v.logs))
	case requestGasUsed:
		return list(useTexts(v.uses))
	case requestDifference:
		w := s.find(q.w)
		if w == nil {
			return refusal(ErrVersion)
		}
		return list(differences(&v.state, &w.state))
	}
	return ""
}

func refusal(e Errno) string { return "!" + strconv.Itoa(int(e)) }

func decimal(n uint64) string { return strconv.FormatUint(n, 10) }

func hexadecimal(n uint64) string {
	digits := strconv.FormatUint(n, 16)
	return strings.Repeat("0", 16-len(digits)) + digits
}

// list tells texts, or that there are none.
func list(texts []string) string {
	if len(texts) == 0 {
		return "-"
	}
	return strings.Join(texts, ",")
}

func logTexts(logs []entry) []string {
	var texts []string
	for _, l := range logs {
		texts = append(texts, accountNames[l.account:l.account+1]+decimal(l.value))
	}
	return texts
}

func useTexts(uses []use) []string {
	var texts []string
	for _, u := range uses {
		texts = append(texts, decimal(truth(u.well))+":"+decimal(u.gas))
	}
	return texts
}
