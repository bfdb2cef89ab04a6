package fsm

import "concierge/api"

// state is where an automaton stands. Each event is one of its methods, a row of the table: it goes to the next state and tells the actions; false, and nothing happens, if the event cannot come there.
type state struct{ now api.State }

// row is an event's method.
type row func(*state) ([]api.Action, bool)

// isOne tells whether there is such a state.
func (s *state) isOne() bool {
	return s.now >= api.Initial && s.now <= api.Opened
}

// step does the event: the actions; ErrFsm, if there is no such state or event; ErrRange, if it cannot come there.
func (s *state) step(e api.Event) ([]api.Action, api.Errno) {
	if !s.isOne() || e < api.Up || e > api.RXR {
		return nil, api.ErrFsm
	}
	l, can := rowOf(e)(s)
	if !can {
		return nil, api.ErrRange
	}
	return l, api.OK
}

// rowOf is the method of the event, which there is.
func rowOf(e api.Event) row {
	rows := [...]row{
		api.Up:      (*state).up,
		api.Down:    (*state).down,
		api.Open:    (*state).open,
		api.Close:   (*state).shut,
		api.TOPlus:  (*state).again,
		api.TOMinus: (*state).giveUp,
		api.RCRPlus: (*state).goodRequest,
		api.RCRMin:  (*state).badRequest,
		api.RCA:     (*state).ack,
		api.RCN:     (*state).nak,
		api.RTR:     (*state).endRequest,
		api.RTA:     (*state).endAck,
		api.RUC:     (*state).unknown,
		api.RXJPlus: (*state).mildReject,
		api.RXJMin:  (*state).hardReject,
		api.RXR:     (*state).echo,
	}
	return rows[e]
}

// to goes to the next state, by these actions.
func (s *state) to(next api.State, l ...api.Action) ([]api.Action, bool) {
	s.now = next
	return l, true
}

// stay goes nowhere, by these actions.
func (s *state) stay(l ...api.Action) ([]api.Action, bool) {
	return s.to(s.now, l...)
}

// up: Up, the layer below is ready.
func (s *state) up() ([]api.Action, bool) {
	switch s.now {
	case api.Initial:
		return s.to(api.Closed)
	case api.Starting:
		return s.to(api.ReqSent, api.IRC, api.SCR)
	}
	return nil, false
}

// down: Down, the layer below is so no more.
func (s *state) down() ([]api.Action, bool) {
	switch s.now {
	case api.Closed, api.Closing:
		return s.to(api.Initial)
	case api.Stopped:
		return s.to(api.Starting, api.TLS)
	case api.Stopping, api.ReqSent, api.AckRcvd, api.AckSent:
		return s.to(api.Starting)
	case api.Opened:
		return s.to(api.Starting, api.TLD)
	}
	return nil, false
}

// open: Open, the link is wanted.
func (s *state) open() ([]api.Action, bool) {
	switch s.now {
	case api.Initial:
		return s.to(api.Starting, api.TLS)
	case api.Closed:
		return s.to(api.ReqSent, api.IRC, api.SCR)
	case api.Closing:
		return s.to(api.Stopping)
	}
	return s.stay()
}

// shut: Close, the link is not wanted any more.
func (s *state) shut() ([]api.Action, bool) {
	switch s.now {
	case api.Starting:
		return s.to(api.Initial, api.TLF)
	case api.Stopped:
		return s.to(api.Closed)
	case api.Stopping:
		return s.to(api.Closing)
	case api.ReqSent, api.AckRcvd, api.AckSent:
		return s.to(api.Closing, api.IRC, api.STR)
	case api.Opened:
		return s.to(api.Closing, api.TLD, api.IRC, api.STR)
	}
	return s.stay()
}

// again: TO+, no answer came in time, and it is asked once more.
func (s *state) again() ([]api.Action, bool) {
	switch s.now {
	case api.Closing, api.Stopping:
		return s.stay(api.STR)
	case api.ReqSent, api.AckSent:
		return s.stay(api.SCR)
	case api.AckRcvd:
		return s.to(api.ReqSent, api.SCR)
	}
	return nil, false
}

// giveUp: TO-, no answer came in time, and it was asked often enough.
func (s *state) giveUp() ([]api.Action, bool) {
	switch s.now {
	case api.Closing:
		return s.to(api.Closed, api.TLF)
	case api.Stopping, api.ReqSent, api.AckRcvd, api.AckSent:
		return s.to(api.Stopped, api.TLF)
	}
	return nil, false
}

// goodRequest: RCR+, a Configure-Request that is taken.
func (s *state) goodRequest() ([]api.Action, bool) {
	switch s.now {
	case api.Closed:
		return s.stay(api.STA)
	case api.Stopped:
		return s.to(api.AckSent, api.IRC, api.SCR, api.SCA)
	case api.Closing, api.Stopping:
		return s.stay()
	case api.ReqSent, api.AckSent:
		return s.to(api.AckSent, api.SCA)
	case api.AckRcvd:
		return s.to(api.Opened, api.SCA, api.TLU)
	case api.Opened:
		return s.to(api.AckSent, api.TLD, api.SCR, api.SCA)
	}
	return nil, false
}

// badRequest: RCR-, a Configure-Request that is not taken.
func (s *state) badRequest() ([]api.Action, bool) {
	switch s.now {
	case api.Closed:
		return s.stay(api.STA)
	case api.Stopped:
		return s.to(api.ReqSent, api.IRC, api.SCR, api.SCN)
	case api.Closing, api.Stopping:
		return s.stay()
	case api.ReqSent, api.AckSent:
		return s.to(api.ReqSent, api.SCN)
	case api.AckRcvd:
		return s.stay(api.SCN)
	case api.Opened:
		return s.to(api.ReqSent, api.TLD, api.SCR, api.SCN)
	}
	return nil, false
}

// ack: RCA, a Configure-Ack.
func (s *state) ack() ([]api.Action, bool) {
	switch s.now {
	case api.Closed, api.Stopped:
		return s.stay(api.STA)
	case api.Closing, api.Stopping:
		return s.stay()
	case api.ReqSent:
		return s.to(api.AckRcvd, api.IRC)
	case api.AckRcvd:
		return s.to(api.ReqSent, api.SCR)
	case api.AckSent:
		return s.to(api.Opened, api.IRC, api.TLU)
	case api.Opened:
		return s.to(api.ReqSent, api.TLD, api.SCR)
	}
	return nil, false
}

// nak: RCN, a Configure-Nak or -Reject.
func (s *state) nak() ([]api.Action, bool) {
	switch s.now {
	case api.Closed, api.Stopped:
		return s.stay(api.STA)
	case api.Closing, api.Stopping:
		return s.stay()
	case api.ReqSent, api.AckSent:
		return s.stay(api.IRC, api.SCR)
	case api.AckRcvd:
		return s.to(api.ReqSent, api.SCR)
	case api.Opened:
		return s.to(api.ReqSent, api.TLD, api.SCR)
	}
	return nil, false
}

// endRequest: RTR, a Terminate-Request.
func (s *state) endRequest() ([]api.Action, bool) {
	switch s.now {
	case api.Closed, api.Stopped, api.Closing, api.Stopping:
		return s.stay(api.STA)
	case api.ReqSent, api.AckRcvd, api.AckSent:
		return s.to(api.ReqSent, api.STA)
	case api.Opened:
		return s.to(api.Stopping, api.TLD, api.ZRC, api.STA)
	}
	return nil, false
}

// endAck: RTA, a Terminate-Ack.
func (s *state) endAck() ([]api.Action, bool) {
	switch s.now {
	case api.Closed, api.Stopped, api.ReqSent, api.AckSent:
		return s.stay()
	case api.Closing:
		return s.to(api.Closed, api.TLF)
	case api.Stopping:
		return s.to(api.Stopped, api.TLF)
	case api.AckRcvd:
		return s.to(api.ReqSent)
	case api.Opened:
		return s.to(api.ReqSent, api.TLD, api.SCR)
	}
	return nil, false
}

// unknown: RUC, a packet of a code that is none.
func (s *state) unknown() ([]api.Action, bool) {
	switch s.now {
	case api.Initial, api.Starting:
		return nil, false
	}
	return s.stay(api.SCJ)
}

// mildReject: RXJ+, something was rejected that need not be.
func (s *state) mildReject() ([]api.Action, bool) {
	switch s.now {
	case api.Initial, api.Starting:
		return nil, false
	case api.AckRcvd:
		return s.to(api.ReqSent)
	}
	return s.stay()
}

// hardReject: RXJ-, something was rejected without which nothing goes on.
func (s *state) hardReject() ([]api.Action, bool) {
	switch s.now {
	case api.Closed, api.Closing:
		return s.to(api.Closed, api.TLF)
	case api.Stopped, api.Stopping, api.ReqSent, api.AckRcvd, api.AckSent:
		return s.to(api.Stopped, api.TLF)
	case api.Opened:
		return s.to(api.Stopping, api.TLD, api.IRC, api.STR)
	}
	return nil, false
}

// echo: RXR, an Echo-Request, an answer to one, or a Discard-Request.
func (s *state) echo() ([]api.Action, bool) {
	switch s.now {
	case api.Initial, api.Starting:
		return nil, false
	case api.Opened:
		return s.stay(api.SER)
	}
	return s.stay()
}
