/- One that agrees as a value; what it hears turns it, of the program and of the specification. -/
import Derived.Test.YtaoafikkamnjlaaHearImpl
import Derived.Test.YtaoafikkamnjlaaHearSpec
namespace Go.Proofs.Ytaoafikkamnjlaa
open Go.RowKit
def Neg.cs (s : Neg) : Array Value := #[.int .i64 s.own.mode, .int .i64 s.own.win, .int .i64 s.own.mps, .int .i64 s.own.mtu, .int .i64 s.own.tri, .int .i64 s.asks.mode, .int .i64 s.asks.win, .int .i64 s.asks.mps, .int .i64 s.asks.mtu, .int .i64 s.asks.tri, .int .i64 s.mine.mode, .int .i64 s.mine.win, .int .i64 s.mine.mps, .int .i64 s.mine.mtu, .int .i64 s.mine.tri, .int .i64 s.yours.mode, .int .i64 s.yours.win, .int .i64 s.yours.mps, .int .i64 s.yours.mtu, .int .i64 s.yours.tri, .bool s.fails]
def Msg.cs (m : Msg) : Array Value := #[.int .i64 m.kind, .int .i64 m.opts.mode, .int .i64 m.opts.win, .int .i64 m.opts.mps, .int .i64 m.opts.mtu, .int .i64 m.opts.tri]
/-- What the specification makes of what is heard. -/
def sHear (s : Neg) (m : Msg) : Neg × Msg × Bool :=
  if (s.ok && inB m.kind 1 3 && m.opts.ok) = false then (Neg.zero, Msg.zero, false)
  else if m.opts.mode ≠ s.own.mode then ({ s with fails := true }, Msg.zero, false)
  else if m.kind = 1 then (if s.own.least m.opts = m.opts then ({ s with yours := m.opts }, ⟨2, m.opts⟩, true) else (s, ⟨3, s.own.least m.opts⟩, true))
  else if m.kind = 2 then (if m.opts = s.asks then ({ s with mine := m.opts }, Msg.zero, false) else (s, Msg.zero, false))
  else if s.mine = Opt.zero then ({ s with asks := s.asks.least m.opts }, Msg.zero, false) else (s, Msg.zero, false)
/-- What the program makes of it. -/
def iHear (s : Neg) (m : Msg) : Neg × Msg × Bool :=
  if (s.ok && inB m.kind 1 3 && m.opts.ok) = false then (Neg.zero, Msg.zero, false)
  else if m.opts.mode ≠ s.own.mode then ({ s with fails := true }, Msg.zero, false)
  else if m.kind = 1 then (if s.own.least m.opts = m.opts then ({ s with yours := m.opts }, ⟨2, m.opts⟩, true) else (s, ⟨3, s.own.least m.opts⟩, true))
  else if m.kind = 2 then (if m.opts = s.asks then ({ s with mine := m.opts }, Msg.zero, false) else (s, Msg.zero, false))
  else if s.mine = Opt.zero ∧ s.asks.mode = m.opts.mode then ({ s with asks := s.asks.least m.opts }, Msg.zero, false) else (s, Msg.zero, false)
theorem hear_same (s : Neg) (m : Msg) (h : s.ok = true → s.asks.mode = s.own.mode) : iHear s m = sHear s m := by
  unfold iHear sHear
  by_cases h0 : (s.ok && inB m.kind 1 3 && m.opts.ok) = false
  · rw [if_pos h0, if_pos h0]
  rw [if_neg h0, if_neg h0]
  by_cases h1 : m.opts.mode ≠ s.own.mode
  · rw [if_pos h1, if_pos h1]
  rw [if_neg h1, if_neg h1]
  have hk : s.ok = true := by
    simp only [Bool.not_eq_false, Bool.and_eq_true] at h0
    exact h0.1.1
  have he : s.asks.mode = m.opts.mode := by
    have := h hk
    omega
  simp [he]
theorem sHear_mode (s : Neg) (m : Msg) (h : s.asks.mode = s.own.mode) : (sHear s m).1.asks.mode = (sHear s m).1.own.mode := by
  unfold sHear
  repeat' split
  all_goals first
    | exact h
    | rfl
theorem least_def (a b : Opt) : a.least b = ⟨a.mode, min a.win b.win, min a.mps b.mps, min a.mtu b.mtu, min a.tri b.tri⟩ := rfl
set_option maxHeartbeats 1000000 in
theorem impl_hear (s : Neg) (m : Msg) (w : World) :
    Calls Try.prog 15 #[.agg s.cs, .agg m.cs] w fun e w' => e = .returned (.tuple #[.agg (iHear s m).1.cs, .agg (iHear s m).2.1.cs, .bool (iHear s m).2.2]) ∧ Below w.heap.size w w' := by
  obtain ⟨H, hH⟩ : ∃ H, iHear s m = H := ⟨_, rfl⟩
  rw [hH]
  obtain ⟨⟨o1, o2, o3, o4, o5⟩, ⟨a1, a2, a3, a4, a5⟩, ⟨m1, m2, m3, m4, m5⟩, ⟨y1, y2, y3, y4, y5⟩, f⟩ := s
  obtain ⟨n, ⟨x1, x2, x3, x4, x5⟩⟩ := m
  cases hok : Neg.ok ⟨⟨o1, o2, o3, o4, o5⟩, ⟨a1, a2, a3, a4, a5⟩, ⟨m1, m2, m3, m4, m5⟩, ⟨y1, y2, y3, y4, y5⟩, f⟩
  · obtain rfl : (Neg.zero, Msg.zero, false) = H := by rw [← hH]; simp [iHear, hok]
    exact hear_none_a o1 o2 o3 o4 o5 a1 a2 a3 a4 a5 m1 m2 m3 m4 m5 y1 y2 y3 y4 y5 n x1 x2 x3 x4 x5 f hok w
  cases hk : inB n 1 3
  · obtain rfl : (Neg.zero, Msg.zero, false) = H := by rw [← hH]; simp [iHear, hok, hk]
    exact hear_none_b o1 o2 o3 o4 o5 a1 a2 a3 a4 a5 m1 m2 m3 m4 m5 y1 y2 y3 y4 y5 n x1 x2 x3 x4 x5 f hok hk w
  cases hx : Opt.ok ⟨x1, x2, x3, x4, x5⟩
  · obtain rfl : (Neg.zero, Msg.zero, false) = H := by rw [← hH]; simp [iHear, hok, hk, hx]
    exact hear_none_c o1 o2 o3 o4 o5 a1 a2 a3 a4 a5 m1 m2 m3 m4 m5 y1 y2 y3 y4 y5 n x1 x2 x3 x4 x5 f hok hk hx w
  by_cases hd : x1 = o1
  case neg =>
    obtain rfl : (⟨⟨o1, o2, o3, o4, o5⟩, ⟨a1, a2, a3, a4, a5⟩, ⟨m1, m2, m3, m4, m5⟩, ⟨y1, y2, y3, y4, y5⟩, true⟩, Msg.zero, false) = H := by rw [← hH]; simp [iHear, hok, hk, hx, hd]
    exact hear_apart o1 o2 o3 o4 o5 a1 a2 a3 a4 a5 m1 m2 m3 m4 m5 y1 y2 y3 y4 y5 n x1 x2 x3 x4 x5 f hok hx hk (beq_eq_false_iff_ne.2 hd) w
  subst hd
  have hE : ∀ a b : Opt, a.same b = false ↔ a ≠ b := fun a b => by rw [← Bool.not_eq_true, Opt.same_iff]
  have hE2 : ∀ a b : Opt, a.same b = true ↔ a = b := Opt.same_iff
  rcases (show n = 1 ∨ n = 2 ∨ n = 3 by rw [inB_iff] at hk; omega) with rfl | rfl | rfl
  · have hm : meets ⟨x1, o2, o3, o4, o5⟩ ⟨x1, x2, x3, x4, x5⟩ = true := meets_mk (by simp only [Neg.ok, Bool.and_eq_true] at hok; exact hok.1.1.1) hx rfl
    by_cases he : Opt.least ⟨x1, o2, o3, o4, o5⟩ ⟨x1, x2, x3, x4, x5⟩ = ⟨x1, x2, x3, x4, x5⟩
    · obtain rfl : (⟨⟨x1, o2, o3, o4, o5⟩, ⟨a1, a2, a3, a4, a5⟩, ⟨m1, m2, m3, m4, m5⟩, ⟨x1, x2, x3, x4, x5⟩, f⟩, ⟨2, ⟨x1, x2, x3, x4, x5⟩⟩, true) = H := by rw [← hH]; simp [iHear, hok, hk, hx, he]
      exact hear_ask x1 o2 o3 o4 o5 a1 a2 a3 a4 a5 m1 m2 m3 m4 m5 y1 y2 y3 y4 y5 x2 x3 x4 x5 _ _ _ _ _ _ _ _ _ _ _ _ _ _ _ _ _ _ _ _ _ _ _ _ _ _ f f hok hx (fun w => by
        have q2 : min o2 x2 = x2 := by have := congrArg Opt.win he; simpa [Opt.least] using this
        have q3 : min o3 x3 = x3 := by have := congrArg Opt.mps he; simpa [Opt.least] using this
        have q4 : min o4 x4 = x4 := by have := congrArg Opt.mtu he; simpa [Opt.least] using this
        have q5 : min o5 x5 = x5 := by have := congrArg Opt.tri he; simpa [Opt.least] using this
        exact ask_yes x1 o2 o3 o4 o5 a1 a2 a3 a4 a5 m1 m2 m3 m4 m5 y1 y2 y3 y4 y5 x1 x2 x3 x4 x5 f hm q2 q3 q4 q5 w) w
    · obtain rfl : (⟨⟨x1, o2, o3, o4, o5⟩, ⟨a1, a2, a3, a4, a5⟩, ⟨m1, m2, m3, m4, m5⟩, ⟨y1, y2, y3, y4, y5⟩, f⟩, ⟨3, Opt.least ⟨x1, o2, o3, o4, o5⟩ ⟨x1, x2, x3, x4, x5⟩⟩, true) = H := by rw [← hH]; simp [iHear, hok, hk, hx, he]
      exact hear_ask x1 o2 o3 o4 o5 a1 a2 a3 a4 a5 m1 m2 m3 m4 m5 y1 y2 y3 y4 y5 x2 x3 x4 x5 _ _ _ _ _ _ _ _ _ _ _ _ _ _ _ _ _ _ _ _ _ _ _ _ _ _ f f hok hx (fun w => ask_no x1 o2 o3 o4 o5 a1 a2 a3 a4 a5 m1 m2 m3 m4 m5 y1 y2 y3 y4 y5 x1 x2 x3 x4 x5 (min o2 x2) (min o3 x3) (min o4 x4) (min o5 x5) f hm rfl rfl rfl rfl ((hE _ _).2 he) w) w
  · by_cases he : (⟨x1, x2, x3, x4, x5⟩ : Opt) = ⟨a1, a2, a3, a4, a5⟩
    · obtain rfl : (⟨⟨x1, o2, o3, o4, o5⟩, ⟨a1, a2, a3, a4, a5⟩, ⟨x1, x2, x3, x4, x5⟩, ⟨y1, y2, y3, y4, y5⟩, f⟩, Msg.zero, false) = H := by
        rw [← hH]
        unfold iHear
        rw [if_neg (by simp [hok, hk, hx]), if_neg (by simp), if_neg (by simp), if_pos rfl, if_pos he]
      exact hear_yes x1 o2 o3 o4 o5 a1 a2 a3 a4 a5 m1 m2 m3 m4 m5 y1 y2 y3 y4 y5 x2 x3 x4 x5 _ _ _ _ _ _ _ _ _ _ _ _ _ _ _ _ _ _ _ _ f f hok hx (fun w => hyes_yes x1 o2 o3 o4 o5 a1 a2 a3 a4 a5 m1 m2 m3 m4 m5 y1 y2 y3 y4 y5 x1 x2 x3 x4 x5 f ((hE2 _ _).2 he) w) w
    · obtain rfl : (⟨⟨x1, o2, o3, o4, o5⟩, ⟨a1, a2, a3, a4, a5⟩, ⟨m1, m2, m3, m4, m5⟩, ⟨y1, y2, y3, y4, y5⟩, f⟩, Msg.zero, false) = H := by
        rw [← hH]
        unfold iHear
        rw [if_neg (by simp [hok, hk, hx]), if_neg (by simp), if_neg (by simp), if_pos rfl, if_neg he]
      exact hear_yes x1 o2 o3 o4 o5 a1 a2 a3 a4 a5 m1 m2 m3 m4 m5 y1 y2 y3 y4 y5 x2 x3 x4 x5 _ _ _ _ _ _ _ _ _ _ _ _ _ _ _ _ _ _ _ _ f f hok hx (fun w => hyes_no x1 o2 o3 o4 o5 a1 a2 a3 a4 a5 m1 m2 m3 m4 m5 y1 y2 y3 y4 y5 x1 x2 x3 x4 x5 f ((hE _ _).2 he) w) w
  · have hxx := hx
    by_cases hz : ⟨m1, m2, m3, m4, m5⟩ = Opt.zero
    · by_cases ha : a1 = x1
      · obtain rfl : (⟨⟨x1, o2, o3, o4, o5⟩, Opt.least ⟨a1, a2, a3, a4, a5⟩ ⟨x1, x2, x3, x4, x5⟩, ⟨m1, m2, m3, m4, m5⟩, ⟨y1, y2, y3, y4, y5⟩, f⟩, Msg.zero, false) = H := by
          rw [← hH]
          unfold iHear
          rw [if_neg (by simp [hok, hk, hx]), if_neg (by simp), if_neg (by simp), if_neg (by simp), if_pos ⟨hz, ha⟩]
        have hm : meets ⟨a1, a2, a3, a4, a5⟩ ⟨x1, x2, x3, x4, x5⟩ = true := meets_mk (by simp only [Neg.ok, Bool.and_eq_true] at hok; exact hok.1.1.2) hx ha
        exact hear_but x1 o2 o3 o4 o5 a1 a2 a3 a4 a5 m1 m2 m3 m4 m5 y1 y2 y3 y4 y5 x2 x3 x4 x5 _ _ _ _ _ _ _ _ _ _ _ _ _ _ _ _ _ _ _ _ f f hok hx (fun w => hbut_yes x1 o2 o3 o4 o5 a1 a2 a3 a4 a5 m1 m2 m3 m4 m5 y1 y2 y3 y4 y5 x1 x2 x3 x4 x5 (min a2 x2) (min a3 x3) (min a4 x4) (min a5 x5) f ((hE2 _ _).2 hz) hm rfl rfl rfl rfl w) w
      · obtain rfl : (⟨⟨x1, o2, o3, o4, o5⟩, ⟨a1, a2, a3, a4, a5⟩, ⟨m1, m2, m3, m4, m5⟩, ⟨y1, y2, y3, y4, y5⟩, f⟩, Msg.zero, false) = H := by
          rw [← hH]
          unfold iHear
          rw [if_neg (by simp [hok, hk, hx]), if_neg (by simp), if_neg (by simp), if_neg (by simp), if_neg (fun h => ha h.2)]
        have hm : meets ⟨a1, a2, a3, a4, a5⟩ ⟨x1, x2, x3, x4, x5⟩ = false := by
          rw [← Bool.not_eq_true]
          intro h
          exact ha (meets_mode h)
        exact hear_but x1 o2 o3 o4 o5 a1 a2 a3 a4 a5 m1 m2 m3 m4 m5 y1 y2 y3 y4 y5 x2 x3 x4 x5 _ _ _ _ _ _ _ _ _ _ _ _ _ _ _ _ _ _ _ _ f f hok hx (fun w => hbut_apart x1 o2 o3 o4 o5 a1 a2 a3 a4 a5 m1 m2 m3 m4 m5 y1 y2 y3 y4 y5 x1 x2 x3 x4 x5 f ((hE2 _ _).2 hz) hm w) w
    · obtain rfl : (⟨⟨x1, o2, o3, o4, o5⟩, ⟨a1, a2, a3, a4, a5⟩, ⟨m1, m2, m3, m4, m5⟩, ⟨y1, y2, y3, y4, y5⟩, f⟩, Msg.zero, false) = H := by
        rw [← hH]
        unfold iHear
        rw [if_neg (by simp [hok, hk, hx]), if_neg (by simp), if_neg (by simp), if_neg (by simp), if_neg (fun h => hz h.1)]
      exact hear_but x1 o2 o3 o4 o5 a1 a2 a3 a4 a5 m1 m2 m3 m4 m5 y1 y2 y3 y4 y5 x2 x3 x4 x5 _ _ _ _ _ _ _ _ _ _ _ _ _ _ _ _ _ _ _ _ f f hok hx (fun w => hbut_no x1 o2 o3 o4 o5 a1 a2 a3 a4 a5 m1 m2 m3 m4 m5 y1 y2 y3 y4 y5 x1 x2 x3 x4 x5 f ((hE _ _).2 hz) w) w
set_option maxHeartbeats 1000000 in
theorem spec_hear (s : Neg) (m : Msg) (w : World) :
    Calls Try.prog 16 #[.agg s.cs, .agg m.cs] w fun e w' => e = .returned (.tuple #[.agg (sHear s m).1.cs, .agg (sHear s m).2.1.cs, .bool (sHear s m).2.2]) ∧ Below w.heap.size w w' := by
  obtain ⟨H, hH⟩ : ∃ H, sHear s m = H := ⟨_, rfl⟩
  rw [hH]
  obtain ⟨⟨o1, o2, o3, o4, o5⟩, ⟨a1, a2, a3, a4, a5⟩, ⟨m1, m2, m3, m4, m5⟩, ⟨y1, y2, y3, y4, y5⟩, f⟩ := s
  obtain ⟨n, ⟨x1, x2, x3, x4, x5⟩⟩ := m
  cases hok : Neg.ok ⟨⟨o1, o2, o3, o4, o5⟩, ⟨a1, a2, a3, a4, a5⟩, ⟨m1, m2, m3, m4, m5⟩, ⟨y1, y2, y3, y4, y5⟩, f⟩
  · obtain rfl : (Neg.zero, Msg.zero, false) = H := by rw [← hH]; simp [sHear, hok]
    exact shear_none_a o1 o2 o3 o4 o5 a1 a2 a3 a4 a5 m1 m2 m3 m4 m5 y1 y2 y3 y4 y5 n x1 x2 x3 x4 x5 f hok w
  cases hk : inB n 1 3
  · obtain rfl : (Neg.zero, Msg.zero, false) = H := by rw [← hH]; simp [sHear, hok, hk]
    exact shear_none_b o1 o2 o3 o4 o5 a1 a2 a3 a4 a5 m1 m2 m3 m4 m5 y1 y2 y3 y4 y5 n x1 x2 x3 x4 x5 f hok hk w
  cases hx : Opt.ok ⟨x1, x2, x3, x4, x5⟩
  · obtain rfl : (Neg.zero, Msg.zero, false) = H := by rw [← hH]; simp [sHear, hok, hk, hx]
    exact shear_none_c o1 o2 o3 o4 o5 a1 a2 a3 a4 a5 m1 m2 m3 m4 m5 y1 y2 y3 y4 y5 n x1 x2 x3 x4 x5 f hok hk hx w
  by_cases hd : x1 = o1
  case neg =>
    obtain rfl : (⟨⟨o1, o2, o3, o4, o5⟩, ⟨a1, a2, a3, a4, a5⟩, ⟨m1, m2, m3, m4, m5⟩, ⟨y1, y2, y3, y4, y5⟩, true⟩, Msg.zero, false) = H := by rw [← hH]; simp [sHear, hok, hk, hx, hd]
    exact shear_some o1 o2 o3 o4 o5 a1 a2 a3 a4 a5 m1 m2 m3 m4 m5 y1 y2 y3 y4 y5 n x1 x2 x3 x4 x5 _ _ _ _ _ _ _ _ _ _ _ _ _ _ _ _ _ _ _ _ _ _ _ _ _ _ f true false hok hk hx (fun w => s5_apart o1 o2 o3 o4 o5 a1 a2 a3 a4 a5 m1 m2 m3 m4 m5 y1 y2 y3 y4 y5 n x1 x2 x3 x4 x5 f (beq_eq_false_iff_ne.2 hd) w) w
  subst hd
  have hE : ∀ a b : Opt, a.same b = false ↔ a ≠ b := fun a b => by rw [← Bool.not_eq_true, Opt.same_iff]
  have hE2 : ∀ a b : Opt, a.same b = true ↔ a = b := Opt.same_iff
  rcases (show n = 1 ∨ n = 2 ∨ n = 3 by rw [inB_iff] at hk; omega) with rfl | rfl | rfl
  · by_cases he : Opt.least ⟨x1, o2, o3, o4, o5⟩ ⟨x1, x2, x3, x4, x5⟩ = ⟨x1, x2, x3, x4, x5⟩
    · obtain rfl : (⟨⟨x1, o2, o3, o4, o5⟩, ⟨a1, a2, a3, a4, a5⟩, ⟨m1, m2, m3, m4, m5⟩, ⟨x1, x2, x3, x4, x5⟩, f⟩, ⟨2, ⟨x1, x2, x3, x4, x5⟩⟩, true) = H := by
        rw [← hH]
        unfold sHear
        rw [if_neg (by simp [hok, hk, hx]), if_neg (by simp), if_pos rfl, if_pos he]
      have q2 : min o2 x2 = x2 := by have := congrArg Opt.win he; simpa [Opt.least] using this
      have q3 : min o3 x3 = x3 := by have := congrArg Opt.mps he; simpa [Opt.least] using this
      have q4 : min o4 x4 = x4 := by have := congrArg Opt.mtu he; simpa [Opt.least] using this
      have q5 : min o5 x5 = x5 := by have := congrArg Opt.tri he; simpa [Opt.least] using this
      exact shear_some x1 o2 o3 o4 o5 a1 a2 a3 a4 a5 m1 m2 m3 m4 m5 y1 y2 y3 y4 y5 _ x1 x2 x3 x4 x5 _ _ _ _ _ _ _ _ _ _ _ _ _ _ _ _ _ _ _ _ _ _ _ _ _ _ f f _ hok hk hx (fun w => s5_ask_yes x1 o2 o3 o4 o5 a1 a2 a3 a4 a5 m1 m2 m3 m4 m5 y1 y2 y3 y4 y5 x2 x3 x4 x5 f q2 q3 q4 q5 w) w
    · obtain rfl : (⟨⟨x1, o2, o3, o4, o5⟩, ⟨a1, a2, a3, a4, a5⟩, ⟨m1, m2, m3, m4, m5⟩, ⟨y1, y2, y3, y4, y5⟩, f⟩, ⟨3, Opt.least ⟨x1, o2, o3, o4, o5⟩ ⟨x1, x2, x3, x4, x5⟩⟩, true) = H := by
        rw [← hH]
        unfold sHear
        rw [if_neg (by simp [hok, hk, hx]), if_neg (by simp), if_pos rfl, if_neg he]
      exact shear_some x1 o2 o3 o4 o5 a1 a2 a3 a4 a5 m1 m2 m3 m4 m5 y1 y2 y3 y4 y5 _ x1 x2 x3 x4 x5 _ _ _ _ _ _ _ _ _ _ _ _ _ _ _ _ _ _ _ _ _ _ _ _ _ _ f f _ hok hk hx (fun w => s5_ask_no x1 o2 o3 o4 o5 a1 a2 a3 a4 a5 m1 m2 m3 m4 m5 y1 y2 y3 y4 y5 x2 x3 x4 x5 (min o2 x2) (min o3 x3) (min o4 x4) (min o5 x5) f rfl rfl rfl rfl ((hE _ _).2 he) w) w
  · by_cases he : (⟨x1, x2, x3, x4, x5⟩ : Opt) = ⟨a1, a2, a3, a4, a5⟩
    · obtain rfl : (⟨⟨x1, o2, o3, o4, o5⟩, ⟨a1, a2, a3, a4, a5⟩, ⟨x1, x2, x3, x4, x5⟩, ⟨y1, y2, y3, y4, y5⟩, f⟩, Msg.zero, false) = H := by
        rw [← hH]
        unfold sHear
        rw [if_neg (by simp [hok, hk, hx]), if_neg (by simp), if_neg (by simp), if_pos rfl, if_pos he]
      exact shear_some x1 o2 o3 o4 o5 a1 a2 a3 a4 a5 m1 m2 m3 m4 m5 y1 y2 y3 y4 y5 _ x1 x2 x3 x4 x5 _ _ _ _ _ _ _ _ _ _ _ _ _ _ _ _ _ _ _ _ _ _ _ _ _ _ f f _ hok hk hx (fun w => s5_yes_yes x1 o2 o3 o4 o5 a1 a2 a3 a4 a5 m1 m2 m3 m4 m5 y1 y2 y3 y4 y5 x2 x3 x4 x5 (min o2 x2) (min o3 x3) (min o4 x4) (min o5 x5) f rfl rfl rfl rfl ((hE2 _ _).2 he) w) w
    · obtain rfl : (⟨⟨x1, o2, o3, o4, o5⟩, ⟨a1, a2, a3, a4, a5⟩, ⟨m1, m2, m3, m4, m5⟩, ⟨y1, y2, y3, y4, y5⟩, f⟩, Msg.zero, false) = H := by
        rw [← hH]
        unfold sHear
        rw [if_neg (by simp [hok, hk, hx]), if_neg (by simp), if_neg (by simp), if_pos rfl, if_neg he]
      exact shear_some x1 o2 o3 o4 o5 a1 a2 a3 a4 a5 m1 m2 m3 m4 m5 y1 y2 y3 y4 y5 _ x1 x2 x3 x4 x5 _ _ _ _ _ _ _ _ _ _ _ _ _ _ _ _ _ _ _ _ _ _ _ _ _ _ f f _ hok hk hx (fun w => s5_yes_no x1 o2 o3 o4 o5 a1 a2 a3 a4 a5 m1 m2 m3 m4 m5 y1 y2 y3 y4 y5 x2 x3 x4 x5 (min o2 x2) (min o3 x3) (min o4 x4) (min o5 x5) f rfl rfl rfl rfl ((hE _ _).2 he) w) w
  · by_cases hz : ⟨m1, m2, m3, m4, m5⟩ = Opt.zero
    · obtain rfl : (⟨⟨x1, o2, o3, o4, o5⟩, Opt.least ⟨a1, a2, a3, a4, a5⟩ ⟨x1, x2, x3, x4, x5⟩, ⟨m1, m2, m3, m4, m5⟩, ⟨y1, y2, y3, y4, y5⟩, f⟩, Msg.zero, false) = H := by
        rw [← hH]
        unfold sHear
        rw [if_neg (by simp [hok, hk, hx]), if_neg (by simp), if_neg (by simp), if_neg (by simp), if_pos hz]
      exact shear_some x1 o2 o3 o4 o5 a1 a2 a3 a4 a5 m1 m2 m3 m4 m5 y1 y2 y3 y4 y5 _ x1 x2 x3 x4 x5 _ _ _ _ _ _ _ _ _ _ _ _ _ _ _ _ _ _ _ _ _ _ _ _ _ _ f f _ hok hk hx (fun w => s5_but_yes x1 o2 o3 o4 o5 a1 a2 a3 a4 a5 m1 m2 m3 m4 m5 y1 y2 y3 y4 y5 x2 x3 x4 x5 (min o2 x2) (min o3 x3) (min o4 x4) (min o5 x5) (min a2 x2) (min a3 x3) (min a4 x4) (min a5 x5) f rfl rfl rfl rfl rfl rfl rfl rfl ((hE2 _ _).2 hz) w) w
    · obtain rfl : (⟨⟨x1, o2, o3, o4, o5⟩, ⟨a1, a2, a3, a4, a5⟩, ⟨m1, m2, m3, m4, m5⟩, ⟨y1, y2, y3, y4, y5⟩, f⟩, Msg.zero, false) = H := by
        rw [← hH]
        unfold sHear
        rw [if_neg (by simp [hok, hk, hx]), if_neg (by simp), if_neg (by simp), if_neg (by simp), if_neg hz]
      exact shear_some x1 o2 o3 o4 o5 a1 a2 a3 a4 a5 m1 m2 m3 m4 m5 y1 y2 y3 y4 y5 _ x1 x2 x3 x4 x5 _ _ _ _ _ _ _ _ _ _ _ _ _ _ _ _ _ _ _ _ _ _ _ _ _ _ f f _ hok hk hx (fun w => s5_but_no x1 o2 o3 o4 o5 a1 a2 a3 a4 a5 m1 m2 m3 m4 m5 y1 y2 y3 y4 y5 x2 x3 x4 x5 (min o2 x2) (min o3 x3) (min o4 x4) (min o5 x5) f rfl rfl rfl rfl ((hE _ _).2 hz) w) w
end Go.Proofs.Ytaoafikkamnjlaa
