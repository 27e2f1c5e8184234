/- A disk of the code beside one of the document's. -/
import Derived.Test.YtnnhnkpbiilooaaDlG
namespace Go.Proofs.Ytnnhnkpbiilooaa
open Go.RowKit Go.Maps

theorem Kept.grownBy {q : Nat} {w w' : World} (h : Kept (· = q) w w') : w.grownBy w' (some q) := ⟨h.os, h.tape, h.output, h.size, fun k hk hne => h.block k hk (fun e => hne (by rw [e]))⟩
theorem Law.marks {W w w' : World} {O : List Nat} {l : List (Nat × DS)} (h : Law W w O l) (hg : w.grownBy w' none) : ∀ R : List Nat, (∀ r ∈ R, w.heap.size ≤ r ∧ r < w'.heap.size) → Law W w' (R ++ O) l := by
  intro R hR
  obtain ⟨k1, k0, fs, k2, k3⟩ := h
  refine ⟨grown_two k1 hg, fun x hx => ?_, fs, k2, fun x hx => (k3.each x hx).new hg, k3.apart, fun x hx k hk hO => ?_⟩
  · rcases List.mem_append.1 hx with hx | hx
    · have := hR x hx
      exact ⟨Nat.le_trans k1.size this.1, this.2⟩
    · exact ⟨(k0 x hx).1, Nat.lt_of_lt_of_le (k0 x hx).2 hg.size⟩
  · rcases List.mem_append.1 hO with hO | hO
    · obtain ⟨j1, j2⟩ := (k3.each x hx).kv
      have := (World.ownsRow.lt j2 _ hk).2
      have := (hR k hO).1
      omega
    · exact k3.keeps x hx k hk hO
theorem Law.sub {W w : World} {O O' : List Nat} {l : List (Nat × DS)} (h : Law W w O l) (hO : ∀ r ∈ O', r ∈ O) : Law W w O' l := by
  obtain ⟨h1, h2, fs, h3, h4⟩ := h
  exact ⟨h1, fun r hr => h2 r (hO r hr), fs, h3, h4.each, h4.apart, fun x hx k hk hr => h4.keeps x hx k hk (hO k hr)⟩

/-- A row of yes and no of the statement's own, of this length. -/
def KB (w : World) (v : Value) (m : Nat) : Prop := (v = .slice none 0 0 ∧ m = 0) ∨ ∃ g c cur, v = .slice (some ⟨g, 0, none⟩) m c ∧ Blk w g 4 cur ∧ m ≤ maxLen ∧ ∀ i, i < m → ∃ b, cur[i]? = some (.bool b)
theorem BlsT.kb {w : World} {v : Value} {ks : List Bool} (h : BlsT w v ks) : KB w v ks.length := by
  have h0 := h
  obtain ⟨_, ⟨rfl, h2⟩ | ⟨g, cap, cur, rfl, _, hg, h3, h4, h5, h6⟩⟩ := h
  · exact .inl ⟨rfl, h2⟩
  · refine .inr ⟨g, cap, cur, rfl, hg, by omega, fun i hi => ⟨ks.getD i false, ?_⟩⟩
    have h7 : (cur.toList.take (ks.length * 1))[i]? = some (.bool (ks.getD i false)) := by
      rw [h6]
      simp [List.getElem?_map, List.getElem?_eq_getElem hi, List.getD]
    rw [List.getElem?_take_of_lt (by omega)] at h7
    simpa using h7
theorem KB.set {w : World} {g c m : Nat} (h : KB w (.slice (some ⟨g, 0, none⟩) m c) m) (i : Nat) (b : Bool) : KB (w.setCell ⟨g, i, none⟩ (.bool b)) (.slice (some ⟨g, 0, none⟩) m c) m := by
  rcases h with ⟨e, _⟩ | ⟨g', c', cur, e, h1, h2, h3⟩
  · cases e
  · cases e
    refine .inr ⟨_, _, _, rfl, h1.set i (.bool b), h2, fun j hj => ?_⟩
    obtain ⟨x, hx⟩ := h3 j hj
    rw [Array.getElem?_setIfInBounds]
    split
    · rename_i e
      subst e
      have : i < cur.size := (Array.getElem?_eq_some_iff.1 hx).1
      rw [if_pos this]
      exact ⟨_, rfl⟩
    · exact ⟨x, hx⟩

/-- In the midst of a round. -/
structure St (W w : World) (R : List Nat) (p : Nat) (s : DS) (q : Nat) (t : DS) (kr kp : Value) (ks : List Bool) : Prop where
  law : Law W w (R ++ [q]) [(p, s)]
  ref : RkE w q kr t
  keep : BlsT w kp ks
  own : ∀ g, kp.ownBlock = some g → g ∈ R
  apart : ∀ g, kr.ownBlock = some g → g ∉ R
section
variable {W w w' : World} {R : List Nat} {p q : Nat} {s s' t t' : DS} {kr kp : Value} {ks : List Bool}
theorem St.new (h : St W w R p s q t kr kp ks) (hg : w.grownBy w' none) : St W w' R p s q t kr kp ks :=
  ⟨h.law.new hg, h.ref.new hg, (Kept.new (S := fun _ => False) hg).own h.keep (fun _ _ h => h), h.own, h.apart⟩
/-- A call of the code's. -/
theorem St.code (h : St W w R p s q t kr kp ks) (hl : Law W w' (R ++ [q]) [(p, s')]) (hk : KeptD w w') : St W w' R p s' q t kr kp ks :=
  ⟨hl, h.ref.disk hk, Kept.own hk h.keep (fun k e => h.keep.off e), h.own, h.apart⟩
/-- .. of the document's. -/
theorem St.doc {kr' : Value} (h : St W w R p s q t kr kp ks) (hr : RkE w' q kr' t') (hk : Kept (· = q) w w') (hf : ∀ k, kr'.ownBlock = some k → kr.ownBlock = some k ∨ w.heap.size ≤ k) : St W w' R p s q t' kr' kp ks := by
  obtain ⟨on, lv, h0⟩ := h.ref
  refine ⟨h.law.own h0.blk (by decide) (by decide) (by simp) hk.grownBy, hr, hk.own h.keep (fun k e hs => ?_), h.own, fun g e hR => ?_⟩
  · have hs : k = q := hs
    subst hs
    obtain ⟨cs, hw⟩ := h.keep.kind e
    exact Blk.ne (show Blk w k 4 cs from hw) h0.blk (by decide) rfl
  · rcases hf g e with h1 | h1
    · exact h.apart g h1 hR
    · have := (h.law.2.1 g (by simp [hR])).2
      omega
theorem St.bls (h : St W w R p s q t kr kp ks) : Bls w kp ks := h.keep.bls

/-- .. at its end. -/
structure St2 (W w : World) (R : List Nat) (p q : Nat) (s : DS) (kr kp : Value) (m : Nat) : Prop where
  law : Law W w (R ++ [q]) [(p, s)]
  ref : RkE w q kr s
  keep : KB w kp m
  own : ∀ g, kp.ownBlock = some g → g ∈ R
  apart : ∀ g, kr.ownBlock = some g → g ∉ R
theorem St.end (h : St W w R p s q s kr kp ks) : St2 W w R p q s kr kp ks.length := ⟨h.law, h.ref, h.keep.kb, h.own, h.apart⟩
theorem St2.set {g c m : Nat} (h : St2 W w R p q s kr (.slice (some ⟨g, 0, none⟩) m c) m) (i : Nat) (b : Bool) : St2 W (w.setCell ⟨g, i, none⟩ (.bool b)) R p q s kr (.slice (some ⟨g, 0, none⟩) m c) m := by
  rcases h.keep with ⟨e, _⟩ | ⟨g', c', cur, e, h1, h2, h3⟩
  · cases e
  · cases e
    have hgR := h.own g rfl
    have hg := h1.setG i (.bool b)
    exact ⟨h.law.own h1 (by decide) (by decide) (by simp [hgR]) hg, h.ref.own h1 (fun e => h.apart g e hgR) hg, KB.set h.keep i b, h.own, h.apart⟩
theorem St2.cell {g c m : Nat} (h : St2 W w R p q s kr (.slice (some ⟨g, 0, none⟩) m c) m) {i : Nat} (hi : i < m) : ∃ b, w.cell? ⟨g, i, none⟩ = some (.bool b) ∧ w.frozen? ⟨g, i, none⟩ = false := by
  rcases h.keep with ⟨e, _⟩ | ⟨g', c', cur, e, h1, h2, h3⟩
  · cases e
  · cases e
    obtain ⟨b, hb⟩ := h3 i hi
    exact ⟨b, h1.cell hb, h1.frozen i⟩
theorem St2.form {m : Nat} (h : St2 W w R p q s kr kp m) : m ≤ maxLen ∧ ∃ a c, kp = .slice a m c ∧ (0 < m → ∃ g, a = some ⟨g, 0, none⟩) := by
  rcases h.keep with ⟨e, e2⟩ | ⟨g', c', cur, e, h1, h2, h3⟩
  · subst e e2
    exact ⟨by simp, none, 0, rfl, by simp⟩
  · exact ⟨h2, _, _, e, fun _ => ⟨_, rfl⟩⟩
/-- A round begins. -/
theorem St.begin (h : Law W w [q] [(p, s)]) (hr : RkE w q kr s) (hg : w.grownBy w' none) (hk : BlsT w' kp ks) (hf : ∀ k, kp.ownBlock = some k → w.heap.size ≤ k) : St W w' kp.ownBlock.toList p s q s kr kp ks := by
  refine ⟨h.marks hg _ (fun r hr => ?_), hr.new hg, hk, fun g e => by simp [e], fun g e hR => ?_⟩
  · have e : kp.ownBlock = some r := by simpa using hr
    exact ⟨hf r e, (World.ownsRow.lt hk r e).2⟩
  · have e2 : kp.ownBlock = some g := by simpa using hR
    obtain ⟨on, lv, h0⟩ := hr
    have := (World.ownsRow.lt h0.kp g e).2
    have := hf g e2
    omega
end

theorem rFail_any {w : World} {q : Nat} {kv : Value} {s : DS} (h : RkE w q kv s) (hm : s.m ≤ 1000000000) {v : Value} {ks : List Bool} (hv : Bls w v ks) : Calls Try.prog 30 #[dptr q, v] w (DoesR w q kv (s.fail ks).1 (s.fail ks).2) := by
  obtain ⟨on, lv, h⟩ := h
  rcases hd : s.dd with _ | _
  · rw [DS.fail_live hd]
    exact rFail_live h hm hd hv
  · rw [DS.fail_dead hd]
    exact rFail_dead h hd v

theorem DS.m_count (s : DS) : s.count.1.m = s.m := by
  unfold DS.count
  split
  · rfl
  · split <;> rfl
theorem DS.m_write (s : DS) (k : Int) (b : Bk) : (s.write k b).1.m ≤ s.m + 1 := by
  unfold DS.write
  split
  · rw [DS.m_count]; exact Nat.le_refl _
  · exact Nat.le_succ _
theorem DS.m_flush (s : DS) : s.flush.1.m = s.m := by
  unfold DS.flush
  split
  · rfl
  · split
    · rfl
    · exact DS.m_count s
theorem DS.m_cut (s : DS) (k : Int) (ks : List Bool) : (s.cut k ks).1.m = s.m := by
  unfold DS.cut
  split
  · rfl
  · split <;> rfl
theorem DS.m_fail (s : DS) (ks : List Bool) : (s.fail ks).1.m = s.m := by
  unfold DS.fail
  split <;> rfl
end Go.Proofs.Ytnnhnkpbiilooaa
