/- What lies behind a round, while it is spoiled. -/
import Derived.Test.YtahmpgaohjopeaaFeedsW
import Derived.Test.YtahmpgaohjopeaaWrites2
namespace Go.Proofs.Ytahmpgaohjopeaa
open Go.RowKit

/-- A row of strings that may be written. -/
def WritableT (w : World) (base : Nat) (v : Value) (n : Nat) : Prop := 0 < n → ∃ g c cur, v = .slice (some ⟨g, 0, none⟩) n c ∧ Blk w g 9 cur ∧ n ≤ cur.size ∧ base ≤ g

theorem Texts.writable {w w' : World} {base b' n : Nat} {a : Option Addr} {c : Nat} {xs : List (List UInt8)} (h : Texts w base (.slice a n c) xs) (hg : w.grownBy w' none) (hb : b' ≤ base) : WritableT w' b' (.slice a n c) n := fun h0 => by
  obtain ⟨_, ⟨h1, h2⟩ | ⟨g, cap, cur, e, k1, k2, k3, k4, k5, _⟩⟩ := h
  · cases h1; omega
  · cases e
    exact ⟨g, _, cur, rfl, Blk.new k2 hg, by omega, Nat.le_trans hb k1⟩

theorem Texts.short {w : World} {base n : Nat} {a : Option Addr} {c : Nat} {xs : List (List UInt8)} (h : Texts w base (.slice a n c) xs) : (n : Int) ≤ 9223372036854775807 := by
  obtain ⟨_, ⟨h1, h2⟩ | ⟨g, cap, cur, e, k1, k2, k3, k4, k5, k6⟩⟩ := h
  · cases h1; omega
  · cases e
    unfold maxLen at *
    omega

structure SP (W w : World) (r : Nat) (v : Value) (s : Ms) (x : Nat) (xs : Array Value) (u t : Value) (n m : Nat) : Prop where
  rs : RS w r v s
  bx : Blk w x 29 xs
  wu : Writable w W.heap.size u n
  wt : WritableT w W.heap.size t m
  gr : W.grownBy w none
  far : Far u v

theorem SP.done {W w : World} {r x n m : Nat} {v u t : Value} {s : Ms} {xs : Array Value} (h : SP W w r v s x xs u t n m) : SP W w r v s x xs (.slice none 0 0) t 0 m :=
  ⟨h.rs, h.bx, fun h0 => absurd h0 (by omega), h.wt, h.gr, .inl rfl⟩

theorem SP.setU {W w w' : World} {r x g n m c : Nat} {v t : Value} {s : Ms} {xs cur cur' : Array Value} (h : SP W w r v s x xs (.slice (some ⟨g, 0, none⟩) n c) t n m) (hb : Blk w g 5 cur) (hge : W.heap.size ≤ g)
    (hb' : Blk w' g 5 cur') (hcs : n ≤ cur'.size) (hg : w.grownBy w' (some g)) : SP W w' r v s x xs (.slice (some ⟨g, 0, none⟩) n c) t n m := by
  refine ⟨h.rs.row2 hb hg (by decide) (.inr fun e => ?_), h.bx.kept hg (fun e => ?_), fun _ => ⟨g, c, cur', rfl, hb', hcs, hge⟩, fun h0 => ?_, grown_own h.gr hg (fun n hn => by cases hn; exact hge), h.far⟩
  · rcases h.far with h2 | h2
    · cases h2
    · exact h2 e.symm
  · cases e
    exact (Blk.ne hb h.bx (by decide)) rfl
  · obtain ⟨g2, c2, cur2, e, q1, q2, q3⟩ := h.wt h0
    exact ⟨g2, c2, cur2, e, q1.kept hg (fun e => by cases e; exact (Blk.ne hb q1 (by decide)) rfl), q2, q3⟩

theorem SP.setT {W w w' : World} {r x g n m c : Nat} {v u : Value} {s : Ms} {xs cur cur' : Array Value} (h : SP W w r v s x xs u (.slice (some ⟨g, 0, none⟩) m c) n m) (hb : Blk w g 9 cur) (hge : W.heap.size ≤ g)
    (hb' : Blk w' g 9 cur') (hcs : m ≤ cur'.size) (hg : w.grownBy w' (some g)) : SP W w' r v s x xs u (.slice (some ⟨g, 0, none⟩) m c) n m := by
  refine ⟨h.rs.row2 hb hg (by decide) (.inl (by decide)), h.bx.kept hg (fun e => ?_), fun h0 => ?_, fun _ => ⟨g, c, cur', rfl, hb', hcs, hge⟩, grown_own h.gr hg (fun n hn => by cases hn; exact hge), h.far⟩
  · cases e
    exact (Blk.ne hb h.bx (by decide)) rfl
  · obtain ⟨g2, c2, cur2, e, q1, q2, q3⟩ := h.wu h0
    exact ⟨g2, c2, cur2, e, q1.kept hg (fun e => by cases e; exact (Blk.ne hb q1 (by decide)) rfl), q2, q3⟩
end Go.Proofs.Ytahmpgaohjopeaa
