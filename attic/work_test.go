package attic

import (
	"fmt"
	"math/rand/v2"
	"runtime"
	"strings"
	"sync"
	"testing"
	"time"
)

// randomBatch answers a batch of which the versions' names, accounts and
// numbers are such that refusals are among its answers, but not too many.
func randomBatch(r *rand.Rand, versions int) string {
	version := func() string {
		if r.IntN(2) == 0 {
			return "h"
		}
		return fmt.Sprint(r.IntN(min(versions+2, 100)))
	}
	letter := func() string { i := r.IntN(8); return accountNames[i : i+1] }
	var requests []string
	for range 1 + r.IntN(24) {
		v := version()
		switch r.IntN(12) {
		case 0, 1, 2:
			block := randomBlock(r, letter)
			requests = append(requests, "i"+v+":"+letter()+"/"+block)
			versions++
		case 3:
			requests = append(requests, "b"+v+":"+letter())
		case 4:
			requests = append(requests, "r"+v)
		case 5:
			requests = append(requests, "u"+v)
		case 6:
			requests = append(requests, "d"+v+":"+version())
		case 7:
			requests = append(requests, "l"+v)
		case 8:
			requests = append(requests, "g"+v+":"+letter()+slotNames[r.IntN(2+14*r.IntN(2)):][:1])
		case 9, 10:
			requests = append(requests, "c"+v+":"+letter()+">"+letter()+randomTerms(r))
		case 11:
			requests = append(requests, "m"+v+":"+letter()+">"+letter()+"("+randomArgument(r)+")")
		}
	}
	batch := strings.Join(requests, ";")
	for len(batch) > 1200 {
		batch = batch[:strings.LastIndexByte(batch, ';')]
	}
	return batch
}

func randomBlock(r *rand.Rand, letter func() string) string {
	var all []string
	for range r.IntN(7) {
		switch r.IntN(4) {
		case 0:
			all = append(all, letter()+"{"+randomProgram(r)+"}")
		case 1:
			all = append(all, letter()+">"+letter()+"="+fmt.Sprint(r.IntN([]int{2, 100, 600, 1100}[r.IntN(4)])))
		default:
			all = append(all, letter()+":"+letter()+randomTerms(r))
		}
	}
	return strings.Join(all, ",")
}

// randomTerms answers the gas and the argument of a call.
func randomTerms(r *rand.Rand) string {
	gas := 10 + r.IntN([]int{10, 200, 391}[r.IntN(3)])
	if r.IntN(20) == 0 {
		gas = []int{0, 9, 10, 400, 401, 999999}[r.IntN(6)]
	}
	return fmt.Sprintf("(%d,%s)", gas, randomArgument(r))
}

func randomArgument(r *rand.Rand) string {
	return fmt.Sprint(r.IntN([]int{2, 10, 1000, 1000000}[r.IntN(4)]))
}

// randomProgram answers a program of pieces, of which most find on the stack
// what they take.
func randomProgram(r *rand.Rand) string {
	pieces := strings.Fields("k c y b 0l yl kl kkt k0t y1t 0l1+0t k2t ke ye 3e k3v 51v byv b2/kv k99*1o kb2o kbyo kby1+o kbko k9yo k5ko 25*k01-yo " +
		"k1-d1j kk+9j kr f d x p + - * / < = e t l v o j 01- 3 7 99* kd* 12x- d x e t l v o k0t y1t 5yt ke be")
	var program string
	height := 0
	for range r.IntN(20) {
		piece := pieces[r.IntN(len(pieces))]
		behind, found := heightBehind(piece, height)
		if !found && r.IntN(30) > 0 {
			continue
		}
		if len(program)+len(piece) > maxCode {
			break
		}
		program += piece
		height = behind
	}
	return program
}

// heightBehind answers how many numbers a piece of a program leaves on a stack
// of so many, and whether it finds those that it takes.
func heightBehind(piece string, height int) (int, bool) {
	found := true
	for _, step := range []byte(piece) {
		rule := stepRules[stepOf(step)]
		found = found && height >= rule.takes
		height += rule.puts - rule.takes
	}
	return max(height, 0), found
}

// randomPrograms answers a block in which every account sets its program.
func randomPrograms(r *rand.Rand) string {
	var all []string
	for _, name := range strings.Split(accountNames, "") {
		all = append(all, name+"{"+randomProgram(r)+"}")
	}
	return strings.Join(all, ",")
}

// The same batches with every number of workers, held against the other
// reading.
func TestRandomBatches(t *testing.T) {
	for seed := range uint64(40) {
		r := rand.New(rand.NewPCG(seed, 1))
		model := newPlain()
		var batches, answers []string
		var versions []int
		for i := range 12 {
			batch := randomBatch(r, len(*model))
			if i == 0 {
				batch = "i0:a/" + randomPrograms(r) + ";i0:b/" + randomPrograms(r)
			}
			batches = append(batches, batch)
			answers = append(answers, model.ask(batch))
			versions = append(versions, len(*model))
		}
		onEach(t, func(t *testing.T, a *Attic) {
			for i, batch := range batches {
				wantAnswer(t, a, batch, answers[i])
				wantVersions(t, a, versions[i])
			}
		})
	}
}

func requestsOf(t *testing.T, batch string) []*request {
	t.Helper()
	requests, _, whole := readBatch(batch)
	if !whole {
		t.Fatalf("%q is no batch", batch)
	}
	return requests
}

// A question waits for the imports ahead of it and for no others.
func TestGates(t *testing.T) {
	answers := make([]string, 5)
	imports, questions, last := part(requestsOf(t, "b1:a;i0:a/;b1:a;ih:a/;b2:a"), firstShelf())
	desk := make(chan task)
	var done sync.WaitGroup
	done.Go(func() { answerQuestions(desk, answers) })
	for i, q := range questions {
		desk <- q // taken when the one ahead of it has been answered
		if i > 0 {
			makeImports(imports[i-1:i], answers)
		}
	}
	close(desk)
	done.Wait()
	if got := strings.Join(answers, ";"); got != "!3;1;1050;2;1100" {
		t.Errorf("answered %q", got)
	}
	if len(last.shelf) != 3 {
		t.Errorf("%d versions are left", len(last.shelf))
	}
}

// An import that is slow keeps the questions behind it back, whichever worker
// has them.
func TestQuestionsWaitForImports(t *testing.T) {
	answers := make([]string, 3)
	imports, questions, _ := part(requestsOf(t, "ih:a/;bh:a;b1:a"), firstShelf())
	desks := []chan task{make(chan task, 2), make(chan task, 2)}
	var done sync.WaitGroup
	for _, desk := range desks {
		done.Go(func() { answerQuestions(desk, answers) })
	}
	deal(questions, desks)
	time.Sleep(20 * time.Millisecond)
	makeImports(imports, answers)
	done.Wait()
	if got := strings.Join(answers, ";"); got != "1;1050;1050" {
		t.Errorf("answered %q", got)
	}
}

func TestDealtByTurns(t *testing.T) {
	for workers := 1; workers <= 8; workers++ {
		_, questions, _ := part(requestsOf(t, many("r0;i0:a/", ";", 11)), firstShelf())
		var desks []chan task
		for range workers {
			desks = append(desks, make(chan task, len(questions)))
		}
		deal(questions, desks)
		for i, desk := range desks {
			turn := i
			for q := range desk { // it ends: the desk is closed
				if q.place != 2*turn {
					t.Errorf("%d workers: the desk %d has the request of place %d, want %d", workers, i, q.place, 2*turn)
				}
				turn += workers
			}
			if turn < len(questions) {
				t.Errorf("%d workers: the desk %d has too few", workers, i)
			}
		}
	}
}

func TestGoroutinesEnd(t *testing.T) {
	ahead := runtime.NumGoroutine()
	a := newAttic(t, 8)
	for range 50 {
		a.Ask("ih:a/;bh:a;b1:b;rh")
		a.Ask("")
		a.Ask("bh")
	}
	// A goroutine that has told its end may still be on its way out.
	for range 100 {
		if runtime.NumGoroutine() <= ahead {
			return
		}
		time.Sleep(10 * time.Millisecond)
	}
	t.Errorf("%d goroutines, ahead of it there were %d", runtime.NumGoroutine(), ahead)
}

// What has been made is not written into by what is made on it, nor by what is
// asked: what was answered about a version is answered the same behind later
// batches.
func TestVersionsStay(t *testing.T) {
	onEach(t, func(t *testing.T, a *Attic) {
		r := rand.New(rand.NewPCG(7, 7))
		letter := func() string { return accountNames[r.IntN(4):][:1] }
		told := map[string]string{}
		a.Ask("i0:a/" + randomPrograms(r))
		for a.Versions() < 40 {
			name := fmt.Sprint(1 + r.IntN(a.Versions()-1))
			a.Ask("i" + name + ":a/" + randomBlock(r, letter) + ";c" + name + ":a>" + letter() + "(300,3);m" + name + ":b>" + letter() + "(2)")
			if a.Versions()%4 > 0 {
				continue
			}
			for v := range a.Versions() {
				question := strings.ReplaceAll("r%;b%:a;b%:b;u%;l%;d%:0;g%:a0;c%:a>b(390,3);c%:d>c(99,7);m%:c>a(2);m%:a>d(1)", "%", fmt.Sprint(v))
				answer, _ := a.Ask(question)
				if first, there := told[question]; there && first != answer {
					t.Fatalf("%q was answered %q, then %q", question, first, answer)
				}
				told[question] = answer
			}
		}
	})
}

// Each two steps, on stacks of none to four numbers, held against the other
// reading; with all gas and with little.
func TestEachTwoSteps(t *testing.T) {
	for _, ahead := range []string{"", "k", "2k", "kb1", "k1b3"} {
		for _, step := range allSteps {
			for _, next := range allSteps {
				batch := fmt.Sprintf("i0:a/b{%s%c%c},d{ker};c1:c>b(400,9);c1:a>b(400,0);c1:b>b(14,1);i1:h/c:b(99,9);l2;u2;r2;d1:2", ahead, step, next)
				wantAnswer(t, newAttic(t, 3), batch, newPlain().ask(batch))
			}
		}
	}
}

// Programs that go on as long as they can: every call ends, and answers what
// the other reading does.
func TestLongRuns(t *testing.T) {
	for _, program := range []string{
		"0b1o0j", "b" + strings.Repeat("0b1o", 9), strings.Repeat("0b1opp", 6) + "10j", "k1+b1o10j", "01-d1o01-d1o", "kb1o1kb1o",
		strings.Repeat("d", 40), strings.Repeat("o", 40), strings.Repeat("j", 40), strings.Repeat("k", 40), "1b1v10j", "0l1+0t10j", "1e10j", "b0j", "kd*dk0j",
	} {
		batch := "i0:a/b{" + program + "};c1:c>b(400,0);c1:b>b(400,999999);c1:c>b(399,1);m1:c>b(0);m1:b>b(7);i1:b/b:b(400,1),c:b(400,0),b:b(99,999999);l2;u2;r2;d1:2"
		want := newPlain().ask(batch)
		onEach(t, func(t *testing.T, a *Attic) { wantAnswer(t, a, batch, want) })
	}
}
