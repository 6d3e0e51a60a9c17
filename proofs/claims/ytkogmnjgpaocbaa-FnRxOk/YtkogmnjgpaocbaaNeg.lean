/- One that agrees with another one: when it is ok, what it asks, when it is done; of the program and of the specification. -/
import Derived.Test.YtkogmnjgpaocbaaMeet
namespace Go.Proofs.Ytkogmnjgpaocbaa
open Go.RowKit

/-- One that agrees. -/
structure Neg where
  own : Opt
  asks : Opt
  mine : Opt
  yours : Opt
  fails : Bool
/-- What one says. -/
structure Msg where
  kind : Int
  opts : Opt
def Neg.zero : Neg := ⟨Opt.zero, Opt.zero, Opt.zero, Opt.zero, false⟩
def Msg.zero : Msg := ⟨0, Opt.zero⟩
def Opt.yes (o : Opt) : Bool := o.same Opt.zero || o.ok
def Neg.ok (s : Neg) : Bool := s.own.ok && s.asks.ok && s.mine.yes && s.yours.yes
def negNew (o : Opt) : Neg := if o.ok then ⟨o, o, Opt.zero, Opt.zero, false⟩ else Neg.zero
def says (s : Neg) : Bool := s.ok && !s.fails && s.mine.same Opt.zero
def sayM (s : Neg) : Msg := if says s then ⟨1, s.asks⟩ else Msg.zero
def done (s : Neg) : Bool := s.ok && !s.fails && !s.mine.same Opt.zero && !s.yours.same Opt.zero && meets s.mine s.yours
def doneO (s : Neg) : Opt := if done s then s.mine.least s.yours else Opt.zero

end Go.Proofs.Ytkogmnjgpaocbaa
