/- call.Hear. -/
import Derived.Test.YtkhlmfnfcdhceaaCallS
import Derived.Test.YtkhlmfnfcdhceaaCallT
namespace Go.Proofs.Ytkhlmfnfcdhceaa
open Go.RowKit

def noAnC : Array Value := #[.int .i64 0, .int .i64 0, .string ⟨#[]⟩]

/-- What is heard of three words. -/
def gHear (n0 n1 n2 : Int) (p : List UInt8 × St) : An × Int :=
  if p.2.isSome = false ∨ n1 ≠ 1 ∨ ¬ ansMay n2 p.1 then (noAn, 4) else (⟨n0, n2, p.1⟩, 0)

theorem rFixed_not (m : List UInt8) (h : m.length % 4 ≠ 0) : (rFixed (rLeft (some m)) (some m)).2 = none := by
  show (rFixed ((m.length : Nat) : Int) (some m)).2 = _
  unfold rFixed
  dsimp only
  rw [Int.toNat_natCast, if_neg]
  rintro ⟨_, h2, _⟩
  unfold pad at h2
  omega

theorem cHear_g (l : List UInt8) (p0 p1 p2 : Int × St) (e0 : rWord (some l) = p0) (e1 : rWord p0.2 = p1) (e2 : rWord p1.2 = p2) :
    cHear l = gHear p0.1 p1.1 p2.1 (rFixed (rLeft p2.2) p2.2) := by
  by_cases hl : l.length < 12
  · rw [cHear_short _ hl]
    have hn : p2.2 = none := by
      rcases hp : p2.2 with _ | m
      · rfl
      · exfalso
        rw [← e2] at hp
        obtain ⟨m1, q1, z1⟩ := rWord_back hp
        rw [← e1] at q1
        obtain ⟨m0, q0, z0⟩ := rWord_back q1
        rw [← e0] at q0
        obtain ⟨m', q', z'⟩ := rWord_back q0
        cases q'
        omega
    rw [hn]
    unfold gHear
    rw [if_pos (.inl rfl)]
  · obtain ⟨w0, w1, w2, m, b0, b1, b2, rfl, hlen⟩ := of_three l (by omega)
    rw [cHear_three _ _ _ _ b0 b1 b2]
    unfold three at e0
    rw [rWord_word4 _ b0] at e0
    subst e0
    rw [rWord_word4 _ b1] at e1
    subst e1
    rw [rWord_word4 _ b2] at e2
    subst e2
    by_cases h4 : m.length % 4 = 0
    · rw [rFixed_all m h4]
      unfold gHear
      dsimp only [Option.isSome]
      by_cases q : w1 = 1 ∧ anMay ⟨w0, w2, m⟩
      · rw [if_pos q, if_neg]
        rintro (k | k | k)
        · cases k
        · omega
        · exact k ((anMay_iff _).1 q.2).2
      · rw [if_neg q, if_pos]
        by_cases k : w1 = 1
        · refine .inr (.inr fun k2 => q ⟨k, (anMay_iff _).2 ⟨by unfold isW; dsimp; omega, k2⟩⟩)
        · exact .inr (.inl (by omega))
    · unfold gHear
      rw [if_neg (fun q => h4 q.2.2.2), if_pos (.inl (by rw [rFixed_not m h4]; rfl))]

theorem rFixed_le (s : St) : (rFixed (rLeft s) s).1.length ≤ rLeft s := by
  cases s with
  | none => exact Nat.zero_le _
  | some m => exact rFixed_short (s := m) (n := rLeft (some m)) (u := (rFixed (rLeft (some m)) (some m)).2) rfl
theorem rWord_le (s : St) : rLeft (rWord s).2 ≤ rLeft s := by
  rcases h : (rWord s).2 with _ | m
  · exact Nat.zero_le _
  · obtain ⟨l, rfl, hl⟩ := rWord_back h
    show m.length ≤ l.length
    omega

set_option maxRecDepth 10000 in
set_option maxHeartbeats 4000000 in
theorem Hear_any (s : ByteArray) (w : World) (hs : s.size ≤ 1000000000) : Calls Try.prog 14 #[.string s] w (AT w (cHear s.data.toList)) := by
  obtain ⟨l, hl⟩ : ∃ l, s.data.toList = l := ⟨_, rfl⟩
  have hlen : l.length = s.size := by rw [← hl]; simp
  rw [hl]
  obtain ⟨p0, e0⟩ : ∃ p, rWord (some l) = p := ⟨_, rfl⟩
  obtain ⟨p1, e1⟩ : ∃ p, rWord p0.2 = p := ⟨_, rfl⟩
  obtain ⟨p2, e2⟩ : ∃ p, rWord p1.2 = p := ⟨_, rfl⟩
  rw [cHear_g l p0 p1 p2 e0 e1 e2]
  have hbl : (rFixed (rLeft p2.2) p2.2).1.length ≤ maxLen := by
    have h0 := rWord_le (some l)
    have h1 := rWord_le p0.2
    have h2 := rWord_le p1.2
    have h3 := rFixed_le p2.2
    rw [e0] at h0; rw [e1] at h1; rw [e2] at h2
    have h4 : rLeft (some l) = l.length := rfl
    unfold maxLen
    omega
  have HBL := Lib.hid hbl
  have E := Lib.hid (And.intro e0 (And.intro e1 e2))
  have HN := Lib.hid (fun (r : Nat) (g : Option Nat) (s : St) (w : World) (hr : RdrS w r g s) => next_s r g s w hr)
  have hl1 : (s.size : Int) ≤ 1000000000 := by omega
  have hcv : ∀ w : World, (convert 9 57 (.string s)).run Try.prog w = .ok (.slice (some ⟨w.heap.size, 0, none⟩) s.size (grownCap w s.size 0 5)) (Lib.bytesWorld w 5 s) := fun w => Lib.run_convert_string_bytes w _ _ _ s und9 und22 und5
  obtain ⟨n0, s0⟩ := p0
  obtain ⟨n1, s1⟩ := p1
  obtain ⟨n2, s2⟩ := p2
  dsimp only at E HBL ⊢
  have HLEN := Lib.hid (And.intro hlen (And.intro hs hl))
  clear e0 e1 e2 hs hl hlen hbl
  go_enter Try.func14, Try.ntmps14
  go_wp2_with fail
  clear hcv
  have g1 := World.grownBy_alloc w (.cells noAnC 38) none
  have hR := Blk.made w 38 noAnC
  have g2 := bytesWorld_grown (w.alloc (.cells noAnC 38)) 5 s
  have hT := bytesWorld_bts (w.alloc (.cells noAnC 38)) s (by have := HLEN.out.2.1; omega)
  have hsz : (w.alloc (.cells noAnC 38)).heap.size = w.heap.size + 1 := by simp
  rw [hsz] at hT
  unfold noAnC at hT g2 g1 hR
  clear hsz
  have hR' := hR.new g2
  generalize Lib.bytesWorld (w.alloc (.cells #[.int .i64 0, .int .i64 0, .string ⟨#[]⟩] 38)) 5 s = w1 at *
  generalize grownCap (w.alloc (.cells #[.int .i64 0, .int .i64 0, .string ⟨#[]⟩] 38)) s.size 0 5 = cp at *
  rw [HLEN.out.2.2] at hT
  have HR := Lib.hid hR'
  have HG1 := Lib.hid (World.grownBy.trans g1 g2)
  refine (newReader_any _ l w1 hT (by have := HLEN.out; omega)).mono ?_
  rintro e w2 ⟨r, g, rfl, k1, k2, k3, k4, k5⟩
  clear hT hR hR' g1 g2
  have hrh := RH.begin (xs := #[.int .i64 0, .int .i64 0, .string ⟨#[]⟩]) HR.out HG1.out (Nat.le_refl _) k1 k2 k3 k4 k5
  have HRH := Lib.hid hrh
  clear hrh k1 k2 k3 k4 k5 HR HG1
  go_wp2_with fail
  generalize w2.alloc (.cells #[.int .i64 0, .int .i64 0, .string ⟨#[]⟩] 38) = w3 at *
  generalize w2.heap.size = H at *
  generalize w.heap.size = R at *
  refine (HN.out r g _ _ HRH.out.rdr).mono ?_
  intro e v0 hd
  rw [E.out.1] at hd
  obtain rfl := hd.1
  replace HRH := Lib.hid (HRH.out.next hd)
  clear hd
  have c0 := HRH.out.var.cell (i := 0) (x := .int .i64 0) rfl
  have f0 := HRH.out.var.frozen 0
  go_wp2_with fail
  replace HRH := Lib.hid (HRH.out.set 0 (.int .i64 n0))
  simp only [List.setIfInBounds_toArray, List.set_cons_zero] at HRH
  generalize v0.setCell ⟨H, 0, none⟩ (.int .i64 n0) = v0s at *
  clear c0 f0
  refine (HN.out r g _ _ HRH.out.rdr).mono ?_
  intro e v1 hd
  rw [E.out.2.1] at hd
  obtain rfl := hd.1
  replace HRH := Lib.hid (HRH.out.next hd)
  clear hd
  go_wp2_with fail
  refine (HN.out r g _ _ HRH.out.rdr).mono ?_
  intro e v2 hd
  rw [E.out.2.2] at hd
  obtain rfl := hd.1
  replace HRH := Lib.hid (HRH.out.next hd)
  clear hd
  have c1 := HRH.out.var.cell (i := 1) (x := .int .i64 0) rfl
  have f1 := HRH.out.var.frozen 1
  go_wp2_with fail
  replace HRH := Lib.hid (HRH.out.set 1 (.int .i64 n2))
  simp only [List.setIfInBounds_toArray, List.set_cons_succ, List.set_cons_zero] at HRH
  generalize v2.setCell ⟨H, 1, none⟩ (.int .i64 n2) = v1s at *
  clear c1 f1
  refine (left_s r g s2 _ HRH.out.rdr).mono ?_
  rintro e w' ⟨rfl, rfl⟩
  go_wp2_with fail
  refine (fixed_s r g s2 _ _ HRH.out.rdr).mono ?_
  intro e wf hd
  obtain rfl := hd.1
  replace HRH := Lib.hid (HRH.out.next hd)
  clear hd E HN
  generalize rFixed (↑(rLeft s2)) s2 = q at *
  obtain ⟨bd, sq⟩ := q
  dsimp only at HBL ⊢
  have c2 := HRH.out.var.cell (i := 2) (x := .string ⟨#[]⟩) rfl
  have f2 := HRH.out.var.frozen 2
  go_wp2_with fail
  replace HRH := Lib.hid (HRH.out.set 2 (.string ⟨bd.toArray⟩))
  simp only [List.setIfInBounds_toArray, List.set_cons_succ, List.set_cons_zero] at HRH
  generalize wf.setCell ⟨H, 2, none⟩ (.string ⟨bd.toArray⟩) = v2s at *
  clear c2 f2
  have HAN := Lib.hid (fun w => answer_any n2 bd w HBL.out)
  refine (ok_s r g sq _ HRH.out.rdr).mono ?_
  rintro e w' ⟨rfl, rfl⟩
  have c0 := HRH.out.var.cell (i := 0) (x := .int .i64 n0) rfl
  have c1 := HRH.out.var.cell (i := 1) (x := .int .i64 n2) rfl
  have c2 := HRH.out.var.cell (i := 2) (x := .string ⟨bd.toArray⟩) rfl
  have d0 := HRH.out.res.cell (i := 0) (x := .int .i64 0) rfl
  have d1 := HRH.out.res.cell (i := 1) (x := .int .i64 0) rfl
  have d2 := HRH.out.res.cell (i := 2) (x := .string ⟨#[]⟩) rfl
  have e0 := HRH.out.res.frozen 0
  have e1 := HRH.out.res.frozen 1
  have e2 := HRH.out.res.frozen 2
  by_cases q0 : sq.isSome = false
  · rw [q0]
    go_wp2_with (first | (go_at_call 30; refine (HAN.out _).mono ?_; rintro e w' ⟨rfl, rfl⟩))
    obtain ⟨hb, hg⟩ := HRH.out.told3 (.int .i64 0) (.int .i64 0) (.string ⟨#[]⟩)
    clear d0 d1 d2 e0 e1 e2 c0 c1 c2
    generalize World.setCell _ _ _ = wE at *
    have k0 := hb.cell (i := 0) (x := .int .i64 0) rfl
    have k1 := hb.cell (i := 1) (x := .int .i64 0) rfl
    have k2 := hb.cell (i := 2) (x := .string ⟨#[]⟩) rfl
    exact bodyPost_ret (v := .tuple #[anV noAn, .int .i64 4]) (by simp [results, Try.results14, go_sem, anV, noAn, txt, k0, k1, k2]) rfl ⟨by unfold gHear; rw [if_pos (.inl q0)], hg⟩
  · rw [Bool.not_eq_false] at q0; rw [q0]
    by_cases q1 : n1 = 1
    · by_cases q4 : ansMay n2 bd
      · rw [decide_eq_true q4] at HAN
        have HQ := Lib.hid (show ¬ (sq.isSome = false ∨ n1 ≠ 1 ∨ ¬ ansMay n2 bd) by simp [q0, q1, q4])
        subst q1
        clear q4
        go_wp2_with (first | (go_at_call 30; refine (HAN.out _).mono ?_; rintro e w' ⟨rfl, rfl⟩))
        obtain ⟨hb, hg⟩ := HRH.out.told3 (.int .i64 n0) (.int .i64 n2) (.string ⟨bd.toArray⟩)
        clear d0 d1 d2 e0 e1 e2 c0 c1 c2
        generalize World.setCell _ _ _ = wE at *
        have k0 := hb.cell (i := 0) (x := .int .i64 n0) rfl
        have k1 := hb.cell (i := 1) (x := .int .i64 n2) rfl
        have k2 := hb.cell (i := 2) (x := .string ⟨bd.toArray⟩) rfl
        exact bodyPost_ret (v := .tuple #[anV ⟨n0, n2, bd⟩, .int .i64 0]) (by simp [results, Try.results14, go_sem, anV,  txt, k0, k1, k2]) rfl ⟨by unfold gHear; rw [if_neg HQ.out], hg⟩
      · rw [decide_eq_false q4] at HAN
        have HQ := Lib.hid q4
        clear q4
        go_wp2_with (first | (go_at_call 30; refine (HAN.out _).mono ?_; rintro e w' ⟨rfl, rfl⟩))
        obtain ⟨hb, hg⟩ := HRH.out.told3 (.int .i64 0) (.int .i64 0) (.string ⟨#[]⟩)
        clear d0 d1 d2 e0 e1 e2 c0 c1 c2
        generalize World.setCell _ _ _ = wE at *
        have k0 := hb.cell (i := 0) (x := .int .i64 0) rfl
        have k1 := hb.cell (i := 1) (x := .int .i64 0) rfl
        have k2 := hb.cell (i := 2) (x := .string ⟨#[]⟩) rfl
        exact bodyPost_ret (v := .tuple #[anV noAn, .int .i64 4]) (by simp [results, Try.results14, go_sem, anV, noAn, txt, k0, k1, k2]) rfl ⟨by unfold gHear; rw [if_pos (.inr (.inr HQ.out))], hg⟩
    · have q2 : (n1 != 1) = true := by simpa using q1
      go_wp2_with (first | (go_at_call 30; refine (HAN.out _).mono ?_; rintro e w' ⟨rfl, rfl⟩))
      obtain ⟨hb, hg⟩ := HRH.out.told3 (.int .i64 0) (.int .i64 0) (.string ⟨#[]⟩)
      clear d0 d1 d2 e0 e1 e2 c0 c1 c2
      generalize World.setCell _ _ _ = wE at *
      have k0 := hb.cell (i := 0) (x := .int .i64 0) rfl
      have k1 := hb.cell (i := 1) (x := .int .i64 0) rfl
      have k2 := hb.cell (i := 2) (x := .string ⟨#[]⟩) rfl
      exact bodyPost_ret (v := .tuple #[anV noAn, .int .i64 4]) (by simp [results, Try.results14, go_sem, anV, noAn, txt, k0, k1, k2]) rfl ⟨by unfold gHear; rw [if_pos (.inr (.inl q1))], hg⟩
end Go.Proofs.Ytkhlmfnfcdhceaa
