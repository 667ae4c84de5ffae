package bench_test

import (
	"math/rand"
	"strings"
	"testing"

	"strobe/api"
	"strobe/bench"
)

// P10.1: the checksums of the chapter's examples; the reference computes all others.
func TestSums(t *testing.T) {
	for text, sum := range map[string]string{"": "0000001", "1": "0000320", "11": "0086769"} {
		if got := referenceSum(text); got != sum {
			t.Errorf("the checksum of %q is %s, not %s", text, sum, got)
		}
	}
}

// P10.1: the file of the example is printed and read.
func TestExampleFile(t *testing.T) {
	lines := "setup s\ninstrument a 5\nwindow 2 4\nlevel 1/2\n"
	file, e := bench.PrintSetup(exampleSetup())
	same(t, "PrintSetup", file, e, lines+"sum "+referenceSum(lines)+"\n", api.OK)
	s, at, e := bench.ParseSetup(file)
	sameAt(t, "ParseSetup", s, at, e, exampleSetup(), 0, api.OK)
}

// setupFaults returns what makes a set-up with two instruments wrong, in the order of the errors.
func setupFaults() []fault[bench.Setup] {
	var l []fault[bench.Setup]
	add := func(e api.Errno, apply func(*bench.Setup)) { l = append(l, fault[bench.Setup]{apply, e}) }
	for _, name := range badNames() {
		add(api.ErrName, func(s *bench.Setup) { s.Name = name })
	}
	add(api.ErrMany, func(s *bench.Setup) { s.Instruments = append(s.Instruments, instruments(15)...) })
	for i := range 2 {
		for _, name := range badNames() {
			add(api.ErrName, func(s *bench.Setup) { s.Instruments[i].Name = name })
		}
		if i == 1 {
			add(api.ErrTwice, func(s *bench.Setup) { s.Instruments[1].Name = s.Instruments[0].Name })
		}
		for _, delay := range append(far(), 100001) {
			add(api.ErrRange, func(s *bench.Setup) { s.Instruments[i].Delay = delay })
		}
	}
	for _, n := range append(far(), 4097) {
		add(api.ErrRange, func(s *bench.Setup) { s.Pre = n })
		add(api.ErrRange, func(s *bench.Setup) { s.Post = n })
	}
	for _, level := range []api.Rat{"", "x", "-0", "01", "1/0", "1/1", "2/4", " 1", "1.5"} {
		add(api.ErrForm, func(s *bench.Setup) { s.Level = level })
	}
	add(api.ErrLarge, func(s *bench.Setup) { s.Level = nines(601) })
	return l
}

// P10.1: the first error of a set-up, and what its limits still permit.
func TestCheckSetup(t *testing.T) {
	firstFault(t, "CheckSetup", func() bench.Setup {
		return bench.Setup{Name: "s", Instruments: []bench.Instrument{{Name: "a"}, {Name: "b"}}, Level: "0"}
	}, bench.CheckSetup, setupFaults())
	for _, name := range goodNames() {
		isError(t, "CheckSetup of a name", bench.CheckSetup(bench.Setup{Name: name, Level: "0"}), api.OK)
	}
	most := bench.Setup{Name: "s", Instruments: instruments(16), Pre: 4096, Post: 4096, Level: "-" + nines(600)}
	most.Instruments[15].Delay = 100000
	isError(t, "CheckSetup at the limits", bench.CheckSetup(most), api.OK)
	isError(t, "CheckSetup of the zero value", bench.CheckSetup(bench.Setup{}), api.ErrName)
	// The first instrument with an error decides.
	most.Instruments[3].Delay, most.Instruments[4].Name, most.Instruments[5].Name = 100001, "", "i0"
	isError(t, "CheckSetup of three errors", bench.CheckSetup(most), api.ErrRange)
}

// P10.1: PrintSetup and New return the error of CheckSetup.
func TestPrintSetupErrors(t *testing.T) {
	for _, f := range setupFaults() {
		s := bench.Setup{Name: "s", Instruments: []bench.Instrument{{Name: "a"}, {Name: "b"}}, Level: "0"}
		f.apply(&s)
		file, e := bench.PrintSetup(s)
		same(t, "PrintSetup", file, e, "", f.e)
		b, e := bench.New(s)
		if b != nil || e != f.e {
			t.Errorf("New: got %v, %d, want no bench and %d", b, e, f.e)
		}
		shots, e := bench.Shots(s, []bench.Command{{Op: "x"}})
		same(t, "Shots", shots, e, nil, f.e)
	}
}

// anySetup returns a random set-up that is valid.
func anySetup(r *rand.Rand) bench.Setup {
	s := bench.Setup{Name: pick(r, goodNames()...), Instruments: instruments(r.Intn(17)), Pre: r.Intn(4097), Post: pick(r, 0, 4096, r.Intn(4097)), Level: pick(r, "0", "-7", "3/2", "-22/7", nines(40), nines(600))}
	for i := range s.Instruments {
		s.Instruments[i].Delay = pick(r, 0, 100000, r.Intn(100001))
	}
	return s
}

// P10.1: files are printed as the definition says, and read as they were printed.
func TestFiles(t *testing.T) {
	r := source(1)
	for range 500 {
		s := anySetup(r)
		file, e := bench.PrintSetup(s)
		same(t, "PrintSetup", file, e, referenceFile(s), api.OK)
		again, at, e := bench.ParseSetup(file)
		sameAt(t, "ParseSetup", again, at, e, s, 0, api.OK)
	}
}

// P10.1: the number of the line without its form.
func TestFilesWithoutForm(t *testing.T) {
	for text, line := range map[string]int{
		"":        1,
		"setup s": 2,
		"setup s\ninstrument a 5\ninstrument b 6":              4,
		"setup s\nwindow 2 4":                                  3,
		"setup s\nwindow 2 4\nlevel 0":                         4,
		"setups\nwindow 2 4\nlevel 0":                          1,
		"setup":                                                1,
		"setup ":                                               1,
		" setup s":                                             1,
		"setup  s":                                             1,
		"setup s t":                                            1,
		"setup s ":                                             1,
		"Setup s":                                              1,
		"instrument a 5\nsetup s":                              1,
		"setup s\ninstrument":                                  2,
		"setup s\ninstrument a":                                2,
		"setup s\ninstrument a 05":                             2,
		"setup s\ninstrument a -5":                             2,
		"setup s\ninstrument a +5":                             2,
		"setup s\ninstrument a 5.0":                            2,
		"setup s\ninstrument a 1000000000":                     2,
		"setup s\ninstrument a 5 ":                             2,
		"setup s\ninstrument a  5":                             2,
		"setup s\ninstrument  5":                               2,
		"setup s\ninstruments a 5":                             2,
		"setup s\n\nwindow 2 4":                                2,
		"setup s\nwindow 2":                                    2,
		"setup s\nwindow 2 4 6":                                2,
		"setup s\nwindow 2 00":                                 2,
		"setup s\nwindow 2 x":                                  2,
		"setup s\nwindow 2 4\ninstrument a 5":                  3,
		"setup s\nwindow 2 4\nlevel":                           3,
		"setup s\nwindow 2 4\nlevel 1 2":                       3,
		"setup s\nlevel 0\nwindow 2 4":                         2,
		"setup s\nwindow 2 4\nlevel 0\nlevel 0":                4,
		"setup s\nwindow 2 4\nlevel 0\nsum 123456":             4,
		"setup s\nwindow 2 4\nlevel 0\nsum 12345678":           4,
		"setup s\nwindow 2 4\nlevel 0\nsum 123456a":            4,
		"setup s\nwindow 2 4\nlevel 0\nsum 1234567 ":           4,
		"setup s\nwindow 2 4\nlevel 0\nSum 1234567":            4,
		"setup s\nwindow 2 4\nlevel 0\nsum 1234567\nsum":       5,
		"setup s\nwindow 2 4\nlevel 0\nsum 1234567\n":          5,
		"setup s\nwindow 2 4\nlevel 0\nsum 1234567\n\n\n":      5,
		"setup s\r\nwindow 2 4\r\nlevel 0\r\nsum 1234567\r\n":  2,
		"setup s\ninstrument a 5\nwindow 2 4\nlevel 0\nsum 12": 5,
	} {
		s, at, e := bench.ParseSetup(text + "\n")
		sameAt(t, "ParseSetup "+text, s, at, e, bench.Setup{}, line, api.ErrSyntax)
		_, at, e = referenceParseSetup(text + "\n")
		sameAt(t, "the reference "+text, 0, at, e, 0, line, api.ErrSyntax)
	}
}

// P10.1: the other errors of a file.
func TestFileErrors(t *testing.T) {
	file := referenceFile(exampleSetup())
	most := summed("setup s\nwindow 2 4\nlevel " + strings.Repeat("1", 4096-12-26) + "\n")
	for _, row := range []struct {
		file string
		at   int
		e    api.Errno
	}{
		{"", 0, api.ErrTorn}, {"x", 0, api.ErrTorn}, {file[:len(file)-1], 0, api.ErrTorn}, {file + " ", 0, api.ErrTorn},
		{strings.Repeat("x", 4097), 0, api.ErrLong}, {strings.Repeat("\n", 4097), 0, api.ErrLong}, {strings.Repeat("\n", 4096), 1, api.ErrSyntax}, {strings.Repeat("x", 4096), 0, api.ErrTorn},
		{most, 0, api.ErrLarge}, {"s" + most, 0, api.ErrLong},
		{"setup s\ninstrument a 5\nwindow 2 4\nlevel 1/2\nsum 0000000\n", 5, api.ErrCheck}, {"setup 1\nwindow 2 4\nlevel x\nsum 0000000\n", 4, api.ErrCheck},
		{summed("setup 1\nwindow 2 4\nlevel x\n"), 0, api.ErrName}, {summed("setup s\nwindow 2 4097\nlevel x\n"), 0, api.ErrRange}, {summed("setup s\nwindow 999999999 4096\nlevel 0\n"), 0, api.ErrRange},
		{summed("setup s\nwindow 2 4\nlevel x\n"), 0, api.ErrForm}, {summed("setup s\nwindow 2 4\nlevel 2/4\n"), 0, api.ErrForm}, {summed("setup s\ninstrument a 1\ninstrument a 2\nwindow 2 4\nlevel 0\n"), 0, api.ErrTwice},
		{summed("setup s\ninstrument \xff\t 1\nwindow 2 4\nlevel 0\n"), 0, api.ErrName}, {summed("setup s\ninstrument a 100001\nwindow 2 4\nlevel 0\n"), 0, api.ErrRange},
		{summed("setup s\n" + strings.Repeat("instrument a 1\n", 17) + "window 2 4\nlevel 0\n"), 0, api.ErrMany},
	} {
		s, at, e := bench.ParseSetup(row.file)
		sameAt(t, "ParseSetup "+row.file, s, at, e, bench.Setup{}, row.at, row.e)
	}
	if len(most) != 4096 {
		t.Errorf("the longest file has %d bytes", len(most))
	}
}

// P10.1: damaged files, with a checksum that is correct or not, have the results of the definition.
func TestDamagedFiles(t *testing.T) {
	r := source(2)
	found := map[api.Errno]int{}
	for range 10000 {
		s := anySetup(r)
		s.Instruments = s.Instruments[:r.Intn(len(s.Instruments)+1)%4]
		file := referenceFile(s)
		lines := damaged(r, file[:len(file)-12], "\n\n 0195/-as")
		if r.Intn(3) > 0 {
			file = summed(lines)
		} else {
			file = damaged(r, lines+file[len(file)-12:], "\n 09")
		}
		wanted, wantedAt, wantedError := referenceParseSetup(file)
		got, at, e := bench.ParseSetup(file)
		sameAt(t, "ParseSetup "+file, got, at, e, wanted, wantedAt, wantedError)
		found[e]++
	}
	decided(t, "ParseSetup", found, api.OK, api.ErrTorn, api.ErrSyntax, api.ErrCheck, api.ErrName, api.ErrRange, api.ErrForm, api.ErrLarge)
}

// DOC.md, Memory: set-ups are not changed, and share no memory with a bench.
func TestSetupsAreKept(t *testing.T) {
	s := exampleSetup()
	b, _ := bench.New(s)
	feed, _ := b.Subscribe(1)
	s.Instruments[0] = bench.Instrument{Name: "b", Delay: 99}
	n, e := b.Execute([]bench.Command{arm("a"), trigger()})
	same(t, "Execute", n, e, 1, api.OK)
	shots, lost, e := b.Drain(feed)
	sameAt(t, "Drain", shots, lost, e, []bench.Shot{{Instrument: "a", Number: 1, Time: 0, From: 3, To: 9}}, 0, api.OK)
}
