/- The document's Hear. -/
import Derived.Test.YtkhlmfnfcdhceaaCallH
import Derived.Test.YtkhlmfnfcdhceaaCallX
namespace Go.Proofs.Ytkhlmfnfcdhceaa
open Go.RowKit

/-- As RH, with the document's reader. -/
def RQ (W w : World) (R H r : Nat) (g : Option Nat) (t : TypeId) (zs xs : Array Value) (s : St) : Prop :=
  Blk w R t zs ∧ Blk w H t xs ∧ RRdrS w r g s ∧ W.grownBy w none ∧ (W.heap.size ≤ R ∧ W.heap.size ≤ H ∧ W.heap.size ≤ r) ∧ (R ≠ r ∧ H ≠ r ∧ R ≠ H ∧ g ≠ some H ∧ g ≠ some R)

/-- Ahead of the variable. -/
def RP (W w : World) (R r : Nat) (g : Option Nat) (t : TypeId) (zs : Array Value) (s : St) : Prop :=
  Blk w R t zs ∧ RRdrS w r g s ∧ W.grownBy w none ∧ (W.heap.size ≤ R ∧ W.heap.size ≤ r) ∧ R ≠ r ∧ g ≠ some R ∧ r < w.heap.size ∧ ∀ k, g = some k → k < w.heap.size

section
variable {W w w' : World} {R H r : Nat} {g : Option Nat} {t : TypeId} {zs xs : Array Value} {s s' : St}

theorem RQ.rdr (h : RQ W w R H r g t zs xs s) : RRdrS w r g s := h.2.2.1
theorem RQ.grown (h : RQ W w R H r g t zs xs s) : W.grownBy w none := h.2.2.2.1
theorem RQ.res (h : RQ W w R H r g t zs xs s) : Blk w R t zs := h.1
theorem RQ.var (h : RQ W w R H r g t zs xs s) : Blk w H t xs := h.2.1
theorem RP.rdr (h : RP W w R r g t zs s) : RRdrS w r g s := h.2.1

theorem RQ.next {v : Value} {e : Ending} (h : RQ W w R H r g t zs xs s) (hd : RRd w r g v s' e w') : RQ W w' R H r g t zs xs s' := by
  obtain ⟨h1, h2, h3, h4, h5, h6⟩ := h
  obtain ⟨_, k2, k3⟩ := hd
  exact ⟨h1.kept k3 (by simpa using h6.1), h2.kept k3 (by simpa using h6.2.1), k2, grown_own h4 k3 (fun n hn => by cases hn; exact h5.2.2), h5, h6⟩

theorem RQ.new (h : RQ W w R H r g t zs xs s) (hg : w.grownBy w' none) : RQ W w' R H r g t zs xs s := by
  obtain ⟨h1, h2, h3, h4, h5, h6⟩ := h
  exact ⟨h1.new hg, h2.new hg, h3.new hg, World.grownBy.trans h4 hg, h5, h6⟩

theorem RQ.set (h : RQ W w R H r g t zs xs s) (i : Nat) (u : Value) : RQ W (w.setCell ⟨H, i, none⟩ u) R H r g t zs (xs.setIfInBounds i u) s := by
  obtain ⟨h1, h2, h3, h4, h5, h6⟩ := h
  have hg : w.grownBy (w.setCell ⟨H, i, none⟩ u) (some H) := Lib.grownBy_setB (World.grownBy.refl _ _) _ _
  refine ⟨h1.kept hg (by simpa using h6.2.2.1), h2.set i u, h3.kept hg (by simpa using h6.2.1) ?_, grown_own h4 hg (fun n hn => by cases hn; exact h5.2.1), h5, h6⟩
  exact .inr h6.2.2.2.1

theorem RP.next {v : Value} {e : Ending} (h : RP W w R r g t zs s) (hd : RRd w r g v s' e w') : RP W w' R r g t zs s' := by
  obtain ⟨h1, h3, h4, h5, h6, h7, h8, h9⟩ := h
  obtain ⟨_, k2, k3⟩ := hd
  exact ⟨h1.kept k3 (by simpa using h6), k2, grown_own h4 k3 (fun n hn => by cases hn; exact h5.2), h5, h6, h7, Nat.lt_of_lt_of_le h8 k3.size, fun k hk => Nat.lt_of_lt_of_le (h9 k hk) k3.size⟩

theorem RP.var (h : RP W w R r g t zs s) (xs : Array Value) : RQ W (w.alloc (.cells xs t)) R w.heap.size r g t zs xs s := by
  obtain ⟨h1, h3, h4, h5, h6, h7, h8, h9⟩ := h
  have ha := World.grownBy_alloc w (.cells xs t) none
  have hlt := h1.lt
  have s0 := h4.size
  refine ⟨h1.new ha, Blk.made _ _ _, h3.new ha, World.grownBy.trans h4 ha, ⟨h5.1, by omega, h5.2⟩, h6, by omega, by omega, fun e => ?_, h7⟩
  have := h9 _ e; omega
end

theorem RP.begin {W w0 w : World} {R : Nat} {t : TypeId} {zs : Array Value} {bs : List UInt8} {r : Nat} {g : Option Nat} (hR : Blk w0 R t zs) (hg0 : W.grownBy w0 none) (hR0 : W.heap.size ≤ R)
    (hs : RRdrS w r g (some bs)) (hg : w0.grownBy w none) (h1 : w0.heap.size ≤ r) (h2 : r < w.heap.size) (h3 : ∀ k, g = some k → w0.heap.size ≤ k ∧ k < w.heap.size) :
    RP W w R r g t zs (some bs) := by
  have hlt := hR.lt
  have s0 := hg0.size
  have s1 := hg.size
  refine ⟨hR.new hg, hs, World.grownBy.trans hg0 hg, ⟨hR0, by omega⟩, by omega, fun e => ?_, h2, fun k hk => (h3 k hk).2⟩
  have := h3 _ e; omega

theorem RQ.told3 {W w : World} {R H r : Nat} {g : Option Nat} {t : TypeId} {z0 z1 z2 : Value} {xs : Array Value} {s : St} (h : RQ W w R H r g t #[z0, z1, z2] xs s) (a b c : Value) :
    Blk (((w.setCell ⟨R, 0, none⟩ a).setCell ⟨R, 1, none⟩ b).setCell ⟨R, 2, none⟩ c) R t #[a, b, c] ∧ W.grownBy (((w.setCell ⟨R, 0, none⟩ a).setCell ⟨R, 1, none⟩ b).setCell ⟨R, 2, none⟩ c) none := by
  obtain ⟨h1, h2, h3, h4, h5, h6⟩ := h
  refine ⟨((h1.set 0 a).set 1 b).set 2 c, grown_own h4 (row := some R) (Lib.grownBy_setB (Lib.grownBy_setB (Lib.grownBy_setB (World.grownBy.refl _ _) _ _) _ _) _ _) (fun n hn => by cases hn; exact h5.1)⟩
theorem RQ.told4 {W w : World} {R H r : Nat} {g : Option Nat} {t : TypeId} {z0 z1 z2 z3 : Value} {xs : Array Value} {s : St} (h : RQ W w R H r g t #[z0, z1, z2, z3] xs s) (a b c d : Value) :
    Blk ((((w.setCell ⟨R, 0, none⟩ a).setCell ⟨R, 1, none⟩ b).setCell ⟨R, 2, none⟩ c).setCell ⟨R, 3, none⟩ d) R t #[a, b, c, d] ∧ W.grownBy ((((w.setCell ⟨R, 0, none⟩ a).setCell ⟨R, 1, none⟩ b).setCell ⟨R, 2, none⟩ c).setCell ⟨R, 3, none⟩ d) none := by
  obtain ⟨h1, h2, h3, h4, h5, h6⟩ := h
  refine ⟨(((h1.set 0 a).set 1 b).set 2 c).set 3 d, grown_own h4 (row := some R) (Lib.grownBy_setB (Lib.grownBy_setB (Lib.grownBy_setB (Lib.grownBy_setB (World.grownBy.refl _ _) _ _) _ _) _ _) _ _) (fun n hn => by cases hn; exact h5.1)⟩

theorem RP.res {W w : World} {R r : Nat} {g : Option Nat} {t : TypeId} {zs : Array Value} {s : St} (h : RP W w R r g t zs s) : Blk w R t zs := h.1
theorem RP.told4 {W w : World} {R r : Nat} {g : Option Nat} {t : TypeId} {z0 z1 z2 z3 : Value} {s : St} (h : RP W w R r g t #[z0, z1, z2, z3] s) (a b c d : Value) :
    Blk ((((w.setCell ⟨R, 0, none⟩ a).setCell ⟨R, 1, none⟩ b).setCell ⟨R, 2, none⟩ c).setCell ⟨R, 3, none⟩ d) R t #[a, b, c, d] ∧ W.grownBy ((((w.setCell ⟨R, 0, none⟩ a).setCell ⟨R, 1, none⟩ b).setCell ⟨R, 2, none⟩ c).setCell ⟨R, 3, none⟩ d) none := by
  obtain ⟨h1, _, h4, h5, _⟩ := h
  refine ⟨(((h1.set 0 a).set 1 b).set 2 c).set 3 d, grown_own h4 (row := some R) (Lib.grownBy_setB (Lib.grownBy_setB (Lib.grownBy_setB (Lib.grownBy_setB (World.grownBy.refl _ _) _ _) _ _) _ _) _ _) (fun n hn => by cases hn; exact h5.1)⟩

theorem wrap_i64_w {n : Nat} (h : n < 4294967296) : IntKind.i64.wrap (n : Int) = n := by rw [IntKind.wrap_i64]; omega

theorem extract_to (s : ByteArray) (n : Nat) : s.extract 0 n = ⟨(s.data.toList.take n).toArray⟩ := by
  apply ByteArray.ext
  apply Array.ext'
  simp
theorem extract_from (s : ByteArray) (n : Nat) : s.extract n s.size = ⟨(s.data.toList.drop n).toArray⟩ := by
  apply ByteArray.ext
  apply Array.ext'
  rw [ByteArray.data_extract, Array.toList_extract]
  have e : s.size = s.data.toList.length := by simp
  rw [e, List.extract_eq_take_drop, List.take_of_length_le (by rw [List.length_drop]; omega)]

set_option maxRecDepth 10000 in
set_option maxHeartbeats 1000000 in
theorem rhear_off (s : ByteArray) (w : World) (h : s.size < 12) : Calls Try.prog 19 #[.string s] w (AT w (noAn, 4)) := by
  have h1 : (s.size : Int) < 12 := by omega
  clear h
  go_enter Try.func19, Try.ntmps19
  go_wp2_with fail
  exact bodyPost_ret (v := .tuple #[anV noAn, .int .i64 4]) (by simp [results, Try.results19, go_sem, anV, noAn, txt]) rfl ⟨rfl, World.grownBy_alloc _ _ _⟩

set_option maxRecDepth 10000 in
set_option maxHeartbeats 4000000 in
theorem rhear_on (s : ByteArray) (w0 w1 w2 : Nat) (l : List UInt8) (w : World) (hs : s.size ≤ 1000000000) (hl : s.data.toList = three w0 w1 w2 l) (b0 : w0 < 4294967296) (b1 : w1 < 4294967296) (b2 : w2 < 4294967296)
    (p : An × Int) (hp : w1 ≠ 1 ∧ p = (noAn, 4) ∨ w1 = 1 ∧ decide (anMay ⟨w0, w2, l⟩) = false ∧ p = (noAn, 4) ∨ w1 = 1 ∧ decide (anMay ⟨w0, w2, l⟩) = true ∧ p = (⟨w0, w2, l⟩, 0)) :
    Calls Try.prog 19 #[.string s] w (AT w p) := by
  have hlen : s.size = l.length + 12 := by rw [← three_len w0 w1 w2 l, ← hl]; simp
  have h1 : (12 : Int) ≤ s.size := by omega
  have hl1 : (s.size : Int) ≤ 1000000000 := by omega
  have HX12 : Hid (s.extract 0 12 = ⟨(three w0 w1 w2 []).toArray⟩) := Lib.hid (by rw [extract_to, hl]; rfl)
  have HX : Hid (s.extract 12 s.size = ⟨l.toArray⟩) := Lib.hid (by rw [extract_from, hl]; rfl)
  have hcv : ∀ (s : ByteArray) (w : World), (convert 9 57 (.string s)).run Try.prog w = .ok (.slice (some ⟨w.heap.size, 0, none⟩) s.size (grownCap w s.size 0 5)) (Lib.bytesWorld w 5 s) := fun s w => Lib.run_convert_string_bytes w _ _ _ s und9 und22 und5
  have HMIN : Hid (min 12 s.size = 12) := Lib.hid (by omega)
  have HMAY := Lib.hid (fun w => may_any w0 w2 l w (by unfold maxLen; omega))
  have HN := Lib.hid (fun (r : Nat) (g : Option Nat) (s : St) (w : World) (hr : RRdrS w r g s) => refWord_s r g s w hr)
  have E := Lib.hid (And.intro (rWord_word4 w0 b0 (word4 w1 ++ (word4 w2 ++ []))) (And.intro (rWord_word4 w1 b1 (word4 w2 ++ [])) (rWord_word4 w2 b2 [])))
  generalize decide (anMay ⟨w0, w2, l⟩) = q at *
  have HP := Lib.hid hp
  have HLEN := Lib.hid (And.intro hlen hs)
  have HBB := Lib.hid (And.intro b0 (And.intro b1 b2))
  clear hl hs hlen b0 b1 b2 hp
  go_enter Try.func19, Try.ntmps19
  go_wp2_with fail
  simp only [HMIN.out, HX12.out]
  clear hcv
  have g1 := World.grownBy_alloc w (.cells noAnC 43) none
  have hR := Blk.made w 43 noAnC
  have g2 := bytesWorld_grown (w.alloc (.cells noAnC 43)) 5 ⟨(three w0 w1 w2 []).toArray⟩
  have hT := bytesWorld_bts (w.alloc (.cells noAnC 43)) ⟨(three w0 w1 w2 []).toArray⟩ (by show (three w0 w1 w2 []).length ≤ _; rw [three_len]; simp)
  have hsz : (w.alloc (.cells noAnC 43)).heap.size = w.heap.size + 1 := by simp
  rw [hsz, show (⟨(three w0 w1 w2 []).toArray⟩ : ByteArray).size = 12 from rfl, show (⟨(three w0 w1 w2 []).toArray⟩ : ByteArray).data.toList = three w0 w1 w2 [] from rfl] at hT
  unfold noAnC at hT g2 g1 hR
  clear hsz
  have hR' := hR.new g2
  generalize Lib.bytesWorld (w.alloc (.cells #[.int .i64 0, .int .i64 0, .string ⟨#[]⟩] 43)) 5 ⟨(three w0 w1 w2 []).toArray⟩ = v1 at *
  generalize grownCap (w.alloc (.cells #[.int .i64 0, .int .i64 0, .string ⟨#[]⟩] 43)) 12 0 5 = cp at *
  have HR := Lib.hid hR'
  have HG1 := Lib.hid (World.grownBy.trans g1 g2)
  refine (refNewReader_any _ (three w0 w1 w2 []) v1 hT (by rw [three_len]; simp)).mono ?_
  rintro e v2 ⟨r, g, rfl, k1, k2, k3, k4, k5⟩
  clear hT hR hR' g1 g2
  have HRP := Lib.hid (RP.begin HR.out HG1.out (Nat.le_refl _) k1 k2 k3 k4 k5)
  clear k1 k2 k3 k4 k5 HR HG1
  unfold three at HRP
  go_wp2_with fail
  generalize w.heap.size = R at *
  refine (HN.out r g _ _ HRP.out.rdr).mono ?_
  intro e v3 hd
  rw [E.out.1] at hd
  obtain rfl := hd.1
  replace HRP := Lib.hid (HRP.out.next hd)
  clear hd
  have hb0 : IntKind.i64.wrap (w0 : Int) = w0 := wrap_i64_w HBB.out.1
  go_wp2_with fail
  clear hb0
  have HRQ := Lib.hid (HRP.out.var #[.int .i64 w0, .int .i64 0, .string ⟨#[]⟩])
  clear HRP
  generalize v3.alloc (.cells #[.int .i64 w0, .int .i64 0, .string ⟨#[]⟩] 43) = v4 at *
  generalize v3.heap.size = H at *
  refine (HN.out r g _ _ HRQ.out.rdr).mono ?_
  intro e v5 hd
  rw [E.out.2.1] at hd
  obtain rfl := hd.1
  replace HRQ := Lib.hid (HRQ.out.next hd)
  clear hd
  go_wp2_with fail
  refine (HN.out r g _ _ HRQ.out.rdr).mono ?_
  intro e v6 hd
  rw [E.out.2.2] at hd
  obtain rfl := hd.1
  replace HRQ := Lib.hid (HRQ.out.next hd)
  clear hd
  have c1o := HRQ.out.var.cell (i := 1) (x := .int .i64 0) rfl
  have f1 := HRQ.out.var.frozen 1
  have c2o := (HRQ.out.set 1 (.int .i64 w2)).var.cell (i := 2) (x := .string ⟨#[]⟩) rfl
  have f2 := (HRQ.out.set 1 (.int .i64 w2)).var.frozen 2
  replace HRQ := Lib.hid ((HRQ.out.set 1 (.int .i64 w2)).set 2 (.string ⟨l.toArray⟩))
  simp only [List.setIfInBounds_toArray, List.set_cons_succ, List.set_cons_zero] at HRQ
  have hb2 : IntKind.i64.wrap (w2 : Int) = w2 := wrap_i64_w HBB.out.2.2
  have hx := HX.out
  have h1' := h1
  clear h1
  unfold anV txt at HMAY
  rcases HP.out with ⟨q1, rfl⟩ | ⟨rfl, rfl, rfl⟩ | ⟨rfl, rfl, rfl⟩
  · have q2 : ((w1 : Int) != 1) = true := by simp; omega
    have d0 := HRQ.out.res.cell (i := 0) (x := .int .i64 0) rfl
    have d1 := HRQ.out.res.cell (i := 1) (x := .int .i64 0) rfl
    have d2 := HRQ.out.res.cell (i := 2) (x := .string ⟨#[]⟩) rfl
    have e0 := HRQ.out.res.frozen 0
    have e1 := HRQ.out.res.frozen 1
    have e2 := HRQ.out.res.frozen 2
    go_wp2_with fail
    clear c1o c2o f1 f2
    obtain ⟨hb, hg⟩ := HRQ.out.told3 (.int .i64 0) (.int .i64 0) (.string ⟨#[]⟩)
    clear d0 d1 d2 e0 e1 e2 HRQ
    generalize World.setCell _ _ _ = wE at *
    have k0 := hb.cell (i := 0) (x := .int .i64 0) rfl
    have k1 := hb.cell (i := 1) (x := .int .i64 0) rfl
    have k2 := hb.cell (i := 2) (x := .string ⟨#[]⟩) rfl
    exact bodyPost_ret (v := .tuple #[anV noAn, .int .i64 4]) (by simp [results, Try.results19, go_sem, anV, noAn, txt, k0, k1, k2]) rfl ⟨rfl, hg⟩
  · have c0 := HRQ.out.var.cell (i := 0) (x := .int .i64 w0) rfl
    have c1 := HRQ.out.var.cell (i := 1) (x := .int .i64 w2) rfl
    have c2 := HRQ.out.var.cell (i := 2) (x := .string ⟨l.toArray⟩) rfl
    go_wp2_with fail
    refine (HMAY.out _).mono ?_; rintro e w7 ⟨rfl, h2⟩
    replace HRQ := Lib.hid (HRQ.out.new h2)
    clear h2 c0 c1 c2 c1o c2o f1 f2
    have d0 := HRQ.out.res.cell (i := 0) (x := .int .i64 0) rfl
    have d1 := HRQ.out.res.cell (i := 1) (x := .int .i64 0) rfl
    have d2 := HRQ.out.res.cell (i := 2) (x := .string ⟨#[]⟩) rfl
    have e0 := HRQ.out.res.frozen 0
    have e1 := HRQ.out.res.frozen 1
    have e2 := HRQ.out.res.frozen 2
    go_wp2_with fail
    obtain ⟨hb, hg⟩ := HRQ.out.told3 (.int .i64 0) (.int .i64 0) (.string ⟨#[]⟩)
    clear d0 d1 d2 e0 e1 e2 HRQ
    generalize World.setCell _ _ _ = wE at *
    have k0 := hb.cell (i := 0) (x := .int .i64 0) rfl
    have k1 := hb.cell (i := 1) (x := .int .i64 0) rfl
    have k2 := hb.cell (i := 2) (x := .string ⟨#[]⟩) rfl
    exact bodyPost_ret (v := .tuple #[anV noAn, .int .i64 4]) (by simp [results, Try.results19, go_sem, anV, noAn, txt, k0, k1, k2]) rfl ⟨rfl, hg⟩
  · have c0 := HRQ.out.var.cell (i := 0) (x := .int .i64 w0) rfl
    have c1 := HRQ.out.var.cell (i := 1) (x := .int .i64 w2) rfl
    have c2 := HRQ.out.var.cell (i := 2) (x := .string ⟨l.toArray⟩) rfl
    go_wp2_with fail
    refine (HMAY.out _).mono ?_; rintro e w7 ⟨rfl, h2⟩
    replace HRQ := Lib.hid (HRQ.out.new h2)
    clear h2 c0 c1 c2 c1o c2o f1 f2
    have c0 := HRQ.out.var.cell (i := 0) (x := .int .i64 w0) rfl
    have c1 := HRQ.out.var.cell (i := 1) (x := .int .i64 w2) rfl
    have c2 := HRQ.out.var.cell (i := 2) (x := .string ⟨l.toArray⟩) rfl
    have d0 := HRQ.out.res.cell (i := 0) (x := .int .i64 0) rfl
    have d1 := HRQ.out.res.cell (i := 1) (x := .int .i64 0) rfl
    have d2 := HRQ.out.res.cell (i := 2) (x := .string ⟨#[]⟩) rfl
    have e0 := HRQ.out.res.frozen 0
    have e1 := HRQ.out.res.frozen 1
    have e2 := HRQ.out.res.frozen 2
    go_wp2_with fail
    clear c0 c1 c2
    obtain ⟨hb, hg⟩ := HRQ.out.told3 (.int .i64 w0) (.int .i64 w2) (.string ⟨l.toArray⟩)
    clear d0 d1 d2 e0 e1 e2 HRQ
    generalize World.setCell _ _ _ = wE at *
    have k0 := hb.cell (i := 0) (x := .int .i64 w0) rfl
    have k1 := hb.cell (i := 1) (x := .int .i64 w2) rfl
    have k2 := hb.cell (i := 2) (x := .string ⟨l.toArray⟩) rfl
    exact bodyPost_ret (v := .tuple #[anV ⟨w0, w2, l⟩, .int .i64 0]) (by simp [results, Try.results19, go_sem, anV,  txt, k0, k1, k2]) rfl ⟨rfl, hg⟩

theorem rHear_any (s : ByteArray) (w : World) (hs : s.size ≤ 1000000000) : Calls Try.prog 19 #[.string s] w (AT w (cHear s.data.toList)) := by
  have hz : s.data.toList.length = s.size := by simp
  by_cases h : s.size < 12
  · rw [cHear_short _ (by omega)]
    exact rhear_off s w h
  · obtain ⟨w0, w1, w2, l, b0, b1, b2, hl, _⟩ := of_three s.data.toList (by omega)
    refine rhear_on s w0 w1 w2 l w hs hl b0 b1 b2 _ ?_
    rw [hl, cHear_three _ _ _ _ b0 b1 b2]
    by_cases q1 : w1 = 1
    · by_cases q2 : anMay ⟨w0, w2, l⟩
      · exact .inr (.inr ⟨q1, decide_eq_true q2, if_pos ⟨q1, q2⟩⟩)
      · exact .inr (.inl ⟨q1, decide_eq_false q2, if_neg (fun k => q2 k.2)⟩)
    · exact .inl ⟨q1, if_neg (fun k => q1 k.1)⟩
end Go.Proofs.Ytkhlmfnfcdhceaa
