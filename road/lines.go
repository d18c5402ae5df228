package road

import (
	"sastrugi/api"
	"sastrugi/check"
	"sastrugi/convoy"
	"sastrugi/crew"
	"sastrugi/fuel"
	"sastrugi/probe"
	"sastrugi/rescue"
	"sastrugi/rows"
)

// reply does what a line says, and returns the reply.
func (d *dispatcher) reply(l line) string {
	answer, e := d.do(l)
	if e != api.OK {
		answer = line{e.Error()}
	}
	return rows.Line(answer)
}

// do does what a line says, and returns the words of the reply. With an error nothing is changed, and the words do not count.
func (d *dispatcher) do(l line) (line, api.Errno) {
	verbs := map[string]func(d *dispatcher, l line) (line, api.Errno){
		"wait":    (*dispatcher).wait,
		"core":    (*dispatcher).look,
		"auger":   (*dispatcher).look,
		"radar":   (*dispatcher).look,
		"crack":   (*dispatcher).mark,
		"ridge":   (*dispatcher).mark,
		"seep":    (*dispatcher).mark,
		"mend":    (*dispatcher).mend,
		"shut":    (*dispatcher).tellShut,
		"lasts":   (*dispatcher).lasts,
		"go":      (*dispatcher).letOn,
		"storm":   (*dispatcher).storm,
		"breakup": (*dispatcher).breakUp,
		"next":    (*dispatcher).next,
		"move":    (*dispatcher).move,
		"fuel":    (*dispatcher).losses,
		"reach":   (*dispatcher).reach,
	}
	verb, known := verbs[l[0]]
	if !known {
		return nil, api.ErrForm
	}
	return verb(d, l)
}

// say returns a reply of a word and numbers.
func say(word string, numbers ...int) line { return rows.Words(word, numbers...) }

// wait lets minutes go by. Trucks that surely have arrived are taken out.
func (d *dispatcher) wait(l line) (line, api.Errno) {
	var minutes int
	if e := l.numbers(&minutes); e != api.OK {
		return nil, e
	}
	minute, e := d.later(minutes)
	if e != api.OK {
		return nil, e
	}
	d.Minute = minute
	d.takeOut()
	return say("ok"), api.OK
}

// look writes down how thick the ice is seen to be.
func (d *dispatcher) look(l line) (line, api.Errno) {
	kinds := map[string]int{"core": api.LookCore, "auger": api.LookAuger, "radar": api.LookRadar}
	x := api.Look{Kind: kinds[l[0]], Hour: d.now()}
	if e := l.numbers(&x.At, &x.Value.Lo, &x.Value.Hi); e != api.OK {
		return nil, e
	}
	looks := append(d.Looks, x)
	if e := probe.CheckLooks(d.region.Survey, looks); e != api.OK {
		return nil, e
	}
	d.Looks = looks
	return say("ok"), api.OK
}

// mark writes down a crack, a ridge or a seep.
func (d *dispatcher) mark(l line) (line, api.Errno) {
	kinds := map[string]int{"crack": api.MarkCrack, "ridge": api.MarkRidge, "seep": api.MarkSeep}
	x := api.Mark{Kind: kinds[l[0]]}
	if e := l.numbers(&x.From, &x.To, &x.Speed); e != api.OK {
		return nil, e
	}
	return d.writeDown(x)
}

// mend writes down what is mended.
func (d *dispatcher) mend(l line) (line, api.Errno) {
	x := api.Mark{Kind: api.MarkMend}
	if e := l.numbers(&x.From, &x.To); e != api.OK {
		return nil, e
	}
	return d.writeDown(x)
}

// writeDown writes down a mark of this hour.
func (d *dispatcher) writeDown(x api.Mark) (line, api.Errno) {
	x.Hour = d.now()
	marks := append(d.Marks, x)
	if e := probe.CheckMarks(d.region.Survey, marks); e != api.OK {
		return nil, e
	}
	d.Marks = marks
	return say("ok"), api.OK
}

// tellShut tells which places are shut for a weight.
func (d *dispatcher) tellShut(l line) (line, api.Errno) {
	var weight int
	if e := l.numbers(&weight); e != api.OK {
		return nil, e
	}
	closures, e := d.shut(weight)
	if e != api.OK {
		return nil, e
	}
	return gates(closures), api.OK
}

// gates returns the words for what is shut, or open if nothing is.
func gates(closures []api.Closure) line {
	if len(closures) == 0 {
		return say(wordOpen)
	}
	l := say(wordShut)
	for _, x := range closures {
		l = append(l, gate(x)...)
	}
	return l
}

// lasts tells up to which hour a place stays open for a weight.
func (d *dispatcher) lasts(l line) (line, api.Errno) {
	var place, weight int
	if e := l.numbers(&place, &weight); e != api.OK {
		return nil, e
	}
	need, e := d.need(weight)
	if e != api.OK {
		return nil, e
	}
	last, e := probe.Lasts(d.region.Survey, d.Looks, d.Marks, need, d.now(), place)
	switch {
	case e != api.OK:
		return nil, e
	case last < 0:
		return say(wordShut), api.OK
	}
	return say("lasts", last), api.OK
}

// storm tells who is caught on the lane in a storm that begins now.
func (d *dispatcher) storm(l line) (line, api.Errno) {
	var minutes int
	if e := l.numbers(&minutes); e != api.OK {
		return nil, e
	}
	end, e := d.later(minutes)
	if e != api.OK {
		return nil, e
	}
	verdicts, e := convoy.Caught(d.rolling(), api.Span{Lo: d.Minute, Hi: end})
	answer := say("caught")
	for _, verdict := range verdicts {
		answer = append(answer, tell(verdict))
	}
	return answer, e
}

// breakUp tells whether all trucks are off before the ice breaks up.
func (d *dispatcher) breakUp(l line) (line, api.Errno) {
	var breakup api.Span
	if e := l.numbers(&breakup.Lo, &breakup.Hi); e != api.OK {
		return nil, e
	}
	verdict, e := convoy.Safe(d.rolling(), breakup)
	return say(tell(verdict)), e
}

// next tells when a driver may drive for so many minutes.
func (d *dispatcher) next(l line) (line, api.Errno) {
	var minutes int
	name, e := l.named(&minutes)
	if e != api.OK {
		return nil, e
	}
	i, e := d.driver(name)
	if e != api.OK {
		return nil, e
	}
	minute, e := crew.Next(d.region.Rules, d.Drivers[i], d.Minute, minutes)
	return say("next", minute), e
}

// move writes down litres that went from an account to another one.
func (d *dispatcher) move(l line) (line, api.Errno) {
	var m api.Move
	if e := l.numbers(&m.From, &m.To, &m.Litres.Lo, &m.Litres.Hi); e != api.OK {
		return nil, e
	}
	book, e := fuel.Post(d.Book, m)
	if e != api.OK {
		return nil, e
	}
	d.Book = book
	return say("ok"), api.OK
}

// losses tells how many litres are missing, and from which accounts.
func (d *dispatcher) losses(l line) (line, api.Errno) {
	if e := l.numbers(); e != api.OK {
		return nil, e
	}
	answer, e := d.lost()
	if e != api.OK {
		return nil, e
	}
	verdicts, e := fuel.Missing(d.Book)
	for i, verdict := range verdicts {
		answer = append(answer, d.Book.Accounts[i].Name, tell(verdict))
	}
	return answer, e
}

// reach tells whether somebody at a spot is reached in time now.
func (d *dispatcher) reach(l line) (line, api.Errno) {
	var spot int
	if e := l.numbers(&spot); e != api.OK {
		return nil, e
	}
	if e := check.Index(spot, d.region.Rescue.Spots); e != api.OK {
		return nil, e
	}
	verdicts, e := rescue.Cover(d.region.Rescue, d.Minute%longDay)
	if e != api.OK {
		return nil, e
	}
	return say(tell(verdicts[spot])), api.OK
}
