/- The document's Read: the words read into a row of numbers. -/
import Derived.Test.YtkhlmfnfcdhceaaCallI
namespace Go.Proofs.Ytkhlmfnfcdhceaa
open Go.RowKit

def iv (z : Int) : Value := .int .i64 z
/-- Numbers of the call's own. -/
def OwnI (w : World) (base : Nat) (v : Value) (zs : List Int) : Prop := w.ownsRow base 3 1 v zs.length (zs.map iv)

theorem OwnI.nil (w : World) (base : Nat) : OwnI w base (.slice none 0 0) [] := World.ownsRow_nil w base _ 1
theorem OwnI.kept {w w' : World} {base : Nat} {v : Value} {zs : List Int} {row : Option Nat} (h : OwnI w base v zs) (hg : w.grownBy w' row) (hne : v.ownBlock = none ∨ v.ownBlock ≠ row) : OwnI w' base v zs := World.ownsRow.kept h hg hne
theorem OwnI.new {w w' : World} {base : Nat} {v : Value} {zs : List Int} (h : OwnI w base v zs) (hg : w.grownBy w' none) : OwnI w' base v zs := by
  refine h.kept hg ?_
  cases v.ownBlock <;> simp
theorem OwnI.lt {w : World} {base : Nat} {v : Value} {zs : List Int} (h : OwnI w base v zs) : ∀ k, v.ownBlock = some k → base ≤ k ∧ k < w.heap.size := World.ownsRow.lt h
theorem OwnI.low {w : World} {base : Nat} {v : Value} {zs : List Int} (h : OwnI w base v zs) {r : Nat} (hr : r < base) : v.ownBlock = none ∨ v.ownBlock ≠ some r := by
  rcases hv : v.ownBlock with _ | k
  · exact .inl rfl
  · exact .inr (by have := (h.lt k hv).1; simp; omega)

theorem OwnI.form {w : World} {base : Nat} {v : Value} {zs : List Int} (h : OwnI w base v zs) : ∃ a n c, v = .slice a n c := by
  obtain ⟨_, ⟨rfl, h2⟩ | ⟨g, cap, cur, rfl, _⟩⟩ := h
  · exact ⟨_, _, _, rfl⟩
  · exact ⟨_, _, _, rfl⟩

theorem OwnI.cells {w : World} {base : Nat} {v : Value} {zs : List Int} (h : OwnI w base v zs) (h0 : 0 < zs.length) : ∃ g c, v = .slice (some ⟨g, 0, none⟩) zs.length c ∧ base ≤ g ∧ ∀ i (hi : i < zs.length), w.cell? ⟨g, i, none⟩ = some (.int .i64 zs[i]) := by
  have h' := h
  obtain ⟨_, ⟨rfl, h2⟩ | ⟨g, cap, cur, rfl, hb, hg, h3, h4, h5, h6⟩⟩ := h
  · omega
  · refine ⟨g, cap, rfl, hb, fun i hi => ?_⟩
    have := World.ownsRow.cells h' (g := g) rfl i (iv zs[i]) (by simp [List.getElem?_map, List.getElem?_eq_getElem hi])
    have hadd : (⟨g, 0, none⟩ : Addr).add i = ⟨g, i, none⟩ := by unfold Addr.add; split <;> simp_all
    rw [hadd] at this
    exact this

theorem und32 : Try.prog.underlying 32 = some (.slice 3) := by kernel_rfl
theorem inf3 : (Try.prog.info? 3).map (fun i => (i.zero, i.size, i.bytes)) = some (some (.int .i64 0), 1, 8) := by kernel_rfl

/-- append(s, z) of a number to numbers of the call's own. -/
theorem wpList_append_int {w : World} {ops : Array Oper} {rest : List Oper} {o : Oper} {a : Act} {Q : Exit → Act → World → Prop} (hgd : o.guard = none) (s x : Operand)
    (ho : o.op = .call { callee := .builtin .append, args := #[s, x], argTypes := #[32, 32] })
    (base : Nat) (v : Value) (zs : List Int) (B c : Nat) (z : Int) (hs : a.eval s = v) (hx : a.eval x = .slice (some ⟨B, 0, none⟩) 1 c) (hown : OwnI w base v zs) (hc : w.cell? ⟨B, 0, none⟩ = some (.int .i64 z)) (h1c : c = 1)
    (hn : zs.length ≤ 1000000) (hbase : base ≤ w.heap.size)
    (h : ∀ v' w', OwnI w' base v' (zs ++ [z]) → w.grownBy w' v.ownBlock → wpList Try.prog ops Q rest (a.put o.dst v') w') : wpList Try.prog ops Q (o :: rest) a w := by
  obtain ⟨i, hi, hz0, hz1, hz2⟩ := info_parts inf3
  subst h1c
  refine wpList_append_own_at _ hgd s x _ ho base _ i _ 1 8 und32 hi hz0 hz1 hz2 rfl (by omega) v zs.length (zs.map iv) hs hown ⟨B, 0, none⟩ 1 1 [iv z] hx (by simp) (fun j u hj => ?_) (by intro u hu; simp at hu; subst hu; rfl) (by unfold maxLen; omega) (by omega) hbase ?_
  · match j, hj with
    | 0, hj =>
      obtain rfl := Option.some.inj hj
      have hadd : (⟨B, 0, none⟩ : Addr).add 0 = ⟨B, 0, none⟩ := by unfold Addr.add; split <;> simp_all
      rw [hadd]
      exact hc
  · intro v' w' k1 k2 _ k4
    refine h v' w' ?_ k2
    unfold OwnI
    rw [List.length_append, List.map_append]
    exact k1

/-- k words read. -/
def rWs (s : St) : Nat → List Int × St
  | 0 => ([], s)
  | k + 1 => ((rWs s k).1 ++ [(rWord (rWs s k).2).1], (rWord (rWs s k).2).2)

theorem rWs_len (s : St) (k : Nat) : (rWs s k).1.length = k := by
  induction k with
  | zero => rfl
  | succ k ih => show ((rWs s k).1 ++ [_]).length = _; rw [List.length_append, ih]; rfl

theorem rWs_six (w0 w1 w2 w3 w4 w5 : Nat) (h0 : w0 < 4294967296) (h1 : w1 < 4294967296) (h2 : w2 < 4294967296) (h3 : w3 < 4294967296) (h4 : w4 < 4294967296) (h5 : w5 < 4294967296) :
    (rWs (some (six w0 w1 w2 w3 w4 w5 [])) 6).1 = [(w0 : Int), w1, w2, w3, w4, w5] := by
  have e1 : rWs (some (six w0 w1 w2 w3 w4 w5 [])) 1 = ([(w0 : Int)], some (word4 w1 ++ (word4 w2 ++ (word4 w3 ++ (word4 w4 ++ (word4 w5 ++ [])))))) := by
    show ([] ++ [(rWord _).1], (rWord _).2) = _
    rw [show rWs (some (six w0 w1 w2 w3 w4 w5 [])) 0 = ([], some (six w0 w1 w2 w3 w4 w5 [])) from rfl]
    unfold six
    rw [rWord_word4 w0 h0]
    rfl
  have e2 : rWs (some (six w0 w1 w2 w3 w4 w5 [])) 2 = ([(w0 : Int), w1], some (word4 w2 ++ (word4 w3 ++ (word4 w4 ++ (word4 w5 ++ []))))) := by
    show ((rWs _ 1).1 ++ [(rWord (rWs _ 1).2).1], (rWord (rWs _ 1).2).2) = _
    rw [e1, rWord_word4 w1 h1]
    rfl
  have e3 : rWs (some (six w0 w1 w2 w3 w4 w5 [])) 3 = ([(w0 : Int), w1, w2], some (word4 w3 ++ (word4 w4 ++ (word4 w5 ++ [])))) := by
    show ((rWs _ 2).1 ++ [(rWord (rWs _ 2).2).1], (rWord (rWs _ 2).2).2) = _
    rw [e2, rWord_word4 w2 h2]
    rfl
  have e4 : rWs (some (six w0 w1 w2 w3 w4 w5 [])) 4 = ([(w0 : Int), w1, w2, w3], some (word4 w4 ++ (word4 w5 ++ []))) := by
    show ((rWs _ 3).1 ++ [(rWord (rWs _ 3).2).1], (rWord (rWs _ 3).2).2) = _
    rw [e3, rWord_word4 w3 h3]
    rfl
  have e5 : rWs (some (six w0 w1 w2 w3 w4 w5 [])) 5 = ([(w0 : Int), w1, w2, w3, w4], some (word4 w5 ++ [])) := by
    show ((rWs _ 4).1 ++ [(rWord (rWs _ 4).2).1], (rWord (rWs _ 4).2).2) = _
    rw [e4, rWord_word4 w4 h4]
    rfl
  show (rWs _ 5).1 ++ [(rWord (rWs _ 5).2).1] = _
  rw [e5, rWord_word4 w5 h5]
  rfl

theorem RP.new {W w w' : World} {R r : Nat} {g : Option Nat} {t : TypeId} {zs : Array Value} {s : St} (h : RP W w R r g t zs s) (hg : w.grownBy w' none) : RP W w' R r g t zs s := by
  obtain ⟨h1, h3, h4, h5, h6, h7, h8, h9⟩ := h
  exact ⟨h1.new hg, h3.new hg, World.grownBy.trans h4 hg, h5, h6, h7, Nat.lt_of_lt_of_le h8 hg.size, fun k hk => Nat.lt_of_lt_of_le (h9 k hk) hg.size⟩

/-- What is there while the words are read into v, whose block lies from base on. -/
def RL (W w : World) (R r : Nat) (g : Option Nat) (t : TypeId) (zs : Array Value) (s : St) (base : Nat) (v : Value) (ns : List Int) : Prop :=
  RP W w R r g t zs s ∧ OwnI w base v ns ∧ r < base ∧ R < base ∧ (∀ k, g = some k → k < base) ∧ base ≤ w.heap.size ∧ W.heap.size ≤ base

section
variable {W w w' : World} {R r base : Nat} {g : Option Nat} {t : TypeId} {zs : Array Value} {s s' : St} {v : Value} {ns : List Int}
theorem RL.rp (h : RL W w R r g t zs s base v ns) : RP W w R r g t zs s := h.1
theorem RL.own (h : RL W w R r g t zs s base v ns) : OwnI w base v ns := h.2.1
theorem RL.le (h : RL W w R r g t zs s base v ns) : base ≤ w.heap.size := h.2.2.2.2.2.1
theorem RL.begin (h : RP W w R r g t zs s) : RL W w R r g t zs s w.heap.size (.slice none 0 0) [] :=
  ⟨h, OwnI.nil _ _, h.2.2.2.2.2.2.1, h.1.lt, h.2.2.2.2.2.2.2, Nat.le_refl _, h.2.2.1.size⟩
theorem RL.next {x : Value} {e : Ending} (h : RL W w R r g t zs s base v ns) (hd : RRd w r g x s' e w') : RL W w' R r g t zs s' base v ns := by
  obtain ⟨h1, h2, h3, h4, h5, h6, h7⟩ := h
  exact ⟨h1.next hd, h2.kept hd.2.2 (h2.low h3), h3, h4, h5, Nat.le_trans h6 hd.2.2.size, h7⟩
theorem RL.new (h : RL W w R r g t zs s base v ns) (hg : w.grownBy w' none) : RL W w' R r g t zs s base v ns := by
  obtain ⟨h1, h2, h3, h4, h5, h6, h7⟩ := h
  exact ⟨h1.new hg, h2.new hg, h3, h4, h5, Nat.le_trans h6 hg.size, h7⟩
theorem RL.more {v' : Value} {ns' : List Int} (h : RL W w R r g t zs s base v ns) (ho : OwnI w' base v' ns') (hg : w.grownBy w' v.ownBlock) : RL W w' R r g t zs s base v' ns' := by
  obtain ⟨⟨k1, k3, k4, k5, k6, k7, k8, k9⟩, h2, h3, h4, h5, h6, h7⟩ := h
  have far : ∀ n, n < base → some n ≠ v.ownBlock := fun n hn e => by have := (h2.lt n e.symm).1; omega
  refine ⟨⟨k1.kept hg (far R h4), k3.kept hg (fun e => far r h3 e.symm) ?_, grown_own k4 hg (fun n hn => by have := (h2.lt n hn).1; omega), k5, k6, k7, Nat.lt_of_lt_of_le k8 hg.size, fun k hk => Nat.lt_of_lt_of_le (k9 k hk) hg.size⟩, ho, h3, h4, h5, Nat.le_trans h6 hg.size, h7⟩
  rcases hgg : g with _ | k
  · exact .inl rfl
  · exact .inr (far k (h5 k hgg))
end
end Go.Proofs.Ytkhlmfnfcdhceaa
