package match

// The kinds of entries that rules ask for.
const (
	breaks = "break"
	shot   = "shot"
	out    = "out"
)

// kind is what the kinds of entries differ in.
type kind struct {
	hasValue bool
	inFrame  bool                             // whether a frame has to be running
	done     func(c contest, e Entry) contest // what becomes of a match in which the entry is legal
}

// kinds returns the kinds of entries by their names.
func kinds() map[string]kind {
	return map[string]kind{
		breaks:    {done: func(c contest, _ Entry) contest { return c.begun() }},
		shot:      {hasValue: true, inFrame: true, done: contest.played},
		out:       {inFrame: true, done: func(c contest, e Entry) contest { return c.paused(e.Player) }},
		"frame":   {inFrame: true, done: func(c contest, e Entry) contest { return c.frameWon(e.Player) }},
		"concede": {inFrame: true, done: func(c contest, e Entry) contest { return c.frameWon(1 - e.Player) }},
		"leave":   {done: func(c contest, e Entry) contest { return c.won(1 - e.Player) }},
	}
}
