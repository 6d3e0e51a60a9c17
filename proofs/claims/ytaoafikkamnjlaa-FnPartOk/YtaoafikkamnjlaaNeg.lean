/- One that agrees with another one: when it is ok, what it asks, when it is done; of the program and of the specification. -/
import Derived.Test.YtaoafikkamnjlaaMeet
namespace Go.Proofs.Ytaoafikkamnjlaa
open Go.RowKit

/-- One that agrees. -/
structure Neg where
  own : Opt
  asks : Opt
  mine : Opt
  yours : Opt
  fails : Bool
/-- What one says. -/
structure Msg where
  kind : Int
  opts : Opt
def Neg.zero : Neg := ⟨Opt.zero, Opt.zero, Opt.zero, Opt.zero, false⟩
def Msg.zero : Msg := ⟨0, Opt.zero⟩
def Opt.yes (o : Opt) : Bool := o.same Opt.zero || o.ok
def Neg.ok (s : Neg) : Bool := s.own.ok && s.asks.ok && s.mine.yes && s.yours.yes
def negNew (o : Opt) : Neg := if o.ok then ⟨o, o, Opt.zero, Opt.zero, false⟩ else Neg.zero
def says (s : Neg) : Bool := s.ok && !s.fails && s.mine.same Opt.zero
def sayM (s : Neg) : Msg := if says s then ⟨1, s.asks⟩ else Msg.zero
def done (s : Neg) : Bool := s.ok && !s.fails && !s.mine.same Opt.zero && !s.yours.same Opt.zero && meets s.mine s.yours
def doneO (s : Neg) : Opt := if done s then s.mine.least s.yours else Opt.zero

set_option maxHeartbeats 1000000 in
theorem yes_v (o1 o2 o3 o4 o5 : Int) (w : World) :
    Calls Try.prog 60 #[.agg #[.int .i64 o1, .int .i64 o2, .int .i64 o3, .int .i64 o4, .int .i64 o5]] w fun e w' => e = .returned (.bool (Opt.yes ⟨o1, o2, o3, o4, o5⟩)) ∧ Below w.heap.size w w' := by
  obtain ⟨w0, e0, B1, b0, hs⟩ := bo1 w #[.int .i64 o1, .int .i64 o2, .int .i64 o3, .int .i64 o4, .int .i64 o5] 24
  have k1 := B1.k
  go_enter Try.func60, Try.ntmps60
  go_wp2_with (first
    | (go_at_call 65; refine (nothing_v _ _ _ _ _ _).mono ?_; rintro e w' ⟨rfl, bb⟩; clear k1; (try clear e0); replace b0 := bchain b0 bb; replace B1 := B1.kept bb; clear bb; have k1 := B1.k)
    | (go_at_call 54; refine (impl_cfg_v _ _ _ _ _ _).mono ?_; rintro e w' ⟨rfl, bb⟩; clear k1; (try clear e0); replace b0 := bchain b0 bb; replace B1 := B1.kept bb; clear bb; have k1 := B1.k))
  all_goals
    go_ret
    refine ⟨ret_bool ?_, b0⟩
    simp_all only [Opt.yes, Bool.true_or, Bool.false_or]
set_option maxHeartbeats 2000000 in
theorem impl_neg_v (o1 o2 o3 o4 o5 a1 a2 a3 a4 a5 m1 m2 m3 m4 m5 y1 y2 y3 y4 y5 : Int) (f : Bool) (w : World) :
    Calls Try.prog 17 #[.agg #[.int .i64 o1, .int .i64 o2, .int .i64 o3, .int .i64 o4, .int .i64 o5, .int .i64 a1, .int .i64 a2, .int .i64 a3, .int .i64 a4, .int .i64 a5, .int .i64 m1, .int .i64 m2, .int .i64 m3, .int .i64 m4, .int .i64 m5, .int .i64 y1, .int .i64 y2, .int .i64 y3, .int .i64 y4, .int .i64 y5, .bool f]] w fun e w' => e = .returned (.bool (Neg.ok ⟨⟨o1, o2, o3, o4, o5⟩, ⟨a1, a2, a3, a4, a5⟩, ⟨m1, m2, m3, m4, m5⟩, ⟨y1, y2, y3, y4, y5⟩, f⟩)) ∧ Below w.heap.size w w' := by
  obtain ⟨w0, e0, B1, b0, hs⟩ := bo1 w #[.int .i64 o1, .int .i64 o2, .int .i64 o3, .int .i64 o4, .int .i64 o5, .int .i64 a1, .int .i64 a2, .int .i64 a3, .int .i64 a4, .int .i64 a5, .int .i64 m1, .int .i64 m2, .int .i64 m3, .int .i64 m4, .int .i64 m5, .int .i64 y1, .int .i64 y2, .int .i64 y3, .int .i64 y4, .int .i64 y5, .bool f] 26
  have k1 := B1.k
  go_enter Try.func17, Try.ntmps17
  go_wp2_with (first
    | (go_at_call 54; refine (impl_cfg_v _ _ _ _ _ _).mono ?_; rintro e w' ⟨rfl, bb⟩; clear k1; (try clear e0); replace b0 := bchain b0 bb; replace B1 := B1.kept bb; clear bb; have k1 := B1.k)
    | (go_at_call 60; refine (yes_v _ _ _ _ _ _).mono ?_; rintro e w' ⟨rfl, bb⟩; clear k1; (try clear e0); replace b0 := bchain b0 bb; replace B1 := B1.kept bb; clear bb; have k1 := B1.k))
  all_goals
    go_ret
    refine ⟨ret_bool ?_, b0⟩
    clear b0 B1 k1
    simp_all [Neg.ok, Opt.yes]
set_option maxHeartbeats 2000000 in
theorem spec_neg_v (o1 o2 o3 o4 o5 a1 a2 a3 a4 a5 m1 m2 m3 m4 m5 y1 y2 y3 y4 y5 : Int) (f : Bool) (w : World) :
    Calls Try.prog 18 #[.agg #[.int .i64 o1, .int .i64 o2, .int .i64 o3, .int .i64 o4, .int .i64 o5, .int .i64 a1, .int .i64 a2, .int .i64 a3, .int .i64 a4, .int .i64 a5, .int .i64 m1, .int .i64 m2, .int .i64 m3, .int .i64 m4, .int .i64 m5, .int .i64 y1, .int .i64 y2, .int .i64 y3, .int .i64 y4, .int .i64 y5, .bool f]] w fun e w' => e = .returned (.bool (Neg.ok ⟨⟨o1, o2, o3, o4, o5⟩, ⟨a1, a2, a3, a4, a5⟩, ⟨m1, m2, m3, m4, m5⟩, ⟨y1, y2, y3, y4, y5⟩, f⟩)) ∧ Below w.heap.size w w' := by
  obtain ⟨w0, e0, B1, b0, hs⟩ := bo1 w #[.int .i64 o1, .int .i64 o2, .int .i64 o3, .int .i64 o4, .int .i64 o5, .int .i64 a1, .int .i64 a2, .int .i64 a3, .int .i64 a4, .int .i64 a5, .int .i64 m1, .int .i64 m2, .int .i64 m3, .int .i64 m4, .int .i64 m5, .int .i64 y1, .int .i64 y2, .int .i64 y3, .int .i64 y4, .int .i64 y5, .bool f] 26
  have k1 := B1.k
  go_enter Try.func18, Try.ntmps18
  go_wp2_with (first
    | (go_at_call 19; refine (spec_cfg_v _ _ _ _ _ _).mono ?_; rintro e w' ⟨rfl, bb⟩; clear k1; (try clear e0); replace b0 := bchain b0 bb; replace B1 := B1.kept bb; clear bb; have k1 := B1.k)
    | (go_at_call 61; refine (none_v _ _ _ _ _ _).mono ?_; rintro e w' ⟨rfl, bb⟩; clear k1; (try clear e0); replace b0 := bchain b0 bb; replace B1 := B1.kept bb; clear bb; have k1 := B1.k))
  all_goals
    go_ret
    refine ⟨ret_bool ?_, b0⟩
    clear b0 B1 k1
    simp_all [Neg.ok, Opt.yes]
end Go.Proofs.Ytaoafikkamnjlaa
