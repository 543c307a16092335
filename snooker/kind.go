package snooker

// The kinds of games.
const (
	snooker   = "snooker"
	billiards = "billiards"
	carom     = "carom"
)

// kind is what the games differ in.
type kind struct {
	most     Game     // the greatest numbers of a game, 0 for those that it does not have
	phases   []string // the first one is that of the beginning
	isBall   func(ball string) bool
	isTarget func(ball string) bool          // whether a ball can be hit
	isReport func(e Entry) bool              // whether a shot has nothing that is not reported in the game
	own      func(s State) State             // the state without what is never there in the game
	fits     func(f frame) bool              // whether the rest of a state is possible
	on       func(f frame) []string          // the balls that may be hit first
	mayCall  func(f frame, ball string) bool // whether a ball, or nothing, may be called
	mayHit   func(f frame, ball string) bool // whether a ball is there to be hit
	supply   func(f frame, ball string) int  // how many such balls can be pocketed
	judged   func(f frame, e Entry) Verdict  // what a shot is worth
	played   func(s stroke, n frame) frame   // a frame after a shot with what follows in this game alone
	text     func(f frame) string            // how a frame without a winner stands, but for the scores
}

// kinds returns the kinds of games by their names.
func kinds() map[string]kind {
	return map[string]kind{
		snooker:   snookerKind(),
		billiards: billiardsKind(),
		carom:     caromKind(),
	}
}

func withoutStreak(s State) State {
	s.Streak = 0
	return s
}

func withoutColours(s State) State {
	s.Colour, s.Free, s.Fouled = 0, false, false
	return s
}
