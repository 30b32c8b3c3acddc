package attic

import "strings"

// try runs y's program by x on the version's state as it is. What it changes
// is a copy: it answers the logs, and the rest is dropped.
func (v *version) try(x, y int, gas, k uint64) (outcome, []entry) {
	copied := ledger{state: v.state}
	end := copied.run(x, y, gas, k, 1)
	return end, copied.logs
}

// callText tells what a call would do.
func (v *version) callText(x, y int, gas, k uint64) string {
	end, logs := v.try(x, y, gas, k)
	texts := []string{decimal(truth(end.well)), decimal(end.value), decimal(end.gas)}
	return strings.Join(append(texts, logTexts(logs)...), ",")
}

// leastGasText tells the least gas with which a call would not fail.
func (v *version) leastGasText(x, y int, k uint64) string {
	for gas := range uint64(maxGas + 1) {
		if end, _ := v.try(x, y, gas, k); end.well {
			return decimal(gas)
		}
	}
	return "-"
}
