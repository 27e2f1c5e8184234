/- call.Read. -/
import Derived.Test.YtkhlmfnfcdhceaaCallR
namespace Go.Proofs.Ytkhlmfnfcdhceaa
open Go.RowKit

def noHdC : Array Value := #[.int .i64 0, .int .i64 0, .int .i64 0, .string ⟨#[]⟩]

set_option maxRecDepth 10000 in
set_option maxHeartbeats 2000000 in
theorem read_off (s : ByteArray) (w : World) (hs : s.size ≤ 1000000000) (h : 4096 < s.size ∨ s.size % 4 ≠ 0) :
    Calls Try.prog 13 #[.string s] w (HT w (noHd, 4)) := by
  have HB := Lib.hid (fun w => whole_any s w (by unfold maxLen; omega))
  have hl : (s.size : Int) ≤ 1000000000 := by omega
  have key : (4096 : Int) < s.size ∨ (s.size : Int) ≤ 4096 ∧ decide (s.size % 4 = 0) = false := by
    by_cases h1 : 4096 < s.size
    · exact .inl (by omega)
    · exact .inr ⟨by omega, decide_eq_false (by omega)⟩
  generalize decide (s.size % 4 = 0) = b1 at *
  clear h hs
  rcases key with h1 | ⟨h1, rfl⟩
  all_goals
    go_enter Try.func13, Try.ntmps13
    go_wp2_with (first
      | (go_at_call 22; refine (HB.out _).mono ?_; rintro e w' ⟨rfl, rfl⟩))
    exact bodyPost_ret (v := .tuple #[hdV noHd, .int .i64 4]) (by simp [results, Try.results13, go_sem, hdV, noHd, txt]) rfl ⟨rfl, World.grownBy_alloc _ _ _⟩

set_option maxRecDepth 10000 in
set_option maxHeartbeats 4000000 in
theorem read_on (s : ByteArray) (l : List UInt8) (w : World) (hs : s.size ≤ 4096) (h4 : s.size % 4 = 0) (hl : s.data.toList = l) :
    Calls Try.prog 13 #[.string s] w (HT w (cRead l)) := by
  have HB := Lib.hid (fun w => whole_any s w (by unfold maxLen; omega))
  rw [decide_eq_true h4] at HB
  have hlen : l.length = s.size := by rw [← hl]; simp
  obtain ⟨p0, e0⟩ : ∃ p, rWord (some l) = p := ⟨_, rfl⟩
  obtain ⟨p1, e1⟩ : ∃ p, rWord p0.2 = p := ⟨_, rfl⟩
  obtain ⟨p2, e2⟩ : ∃ p, rWord p1.2 = p := ⟨_, rfl⟩
  obtain ⟨p3, e3⟩ : ∃ p, rWord p2.2 = p := ⟨_, rfl⟩
  obtain ⟨p4, e4⟩ : ∃ p, rWord p3.2 = p := ⟨_, rfl⟩
  obtain ⟨p5, e5⟩ : ∃ p, rWord p4.2 = p := ⟨_, rfl⟩
  rw [cRead_g l (by omega) (by omega) p0 p1 p2 p3 p4 p5 e0 e1 e2 e3 e4 e5]
  have E := Lib.hid (And.intro e0 (And.intro e1 (And.intro e2 (And.intro e3 (And.intro e4 e5)))))
  have HN := Lib.hid (fun (r : Nat) (g : Option Nat) (s : St) (w : World) (hr : RdrS w r g s) => next_s r g s w hr)
  have hl1 : (s.size : Int) ≤ 4096 := by omega
  have hcv : ∀ w : World, (convert 9 57 (.string s)).run Try.prog w = .ok (.slice (some ⟨w.heap.size, 0, none⟩) s.size (grownCap w s.size 0 5)) (Lib.bytesWorld w 5 s) := fun w => Lib.run_convert_string_bytes w _ _ _ s und9 und22 und5
  obtain ⟨n0, s0⟩ := p0
  obtain ⟨n1, s1⟩ := p1
  obtain ⟨n2, s2⟩ := p2
  obtain ⟨n3, s3⟩ := p3
  obtain ⟨n4, s4⟩ := p4
  obtain ⟨n5, s5⟩ := p5
  dsimp only at E ⊢
  have HLEN := Lib.hid (And.intro hlen (And.intro hs hl))
  clear e0 e1 e2 e3 e4 e5 hs h4 hl hlen
  go_enter Try.func13, Try.ntmps13
  go_wp2_with (first
      | (go_at_call 22; refine (HB.out _).mono ?_; rintro e w' ⟨rfl, rfl⟩))
  clear hcv
  have g1 := World.grownBy_alloc w (.cells noHdC 25) none
  have hR := Blk.made w 25 noHdC
  have g2 := bytesWorld_grown (w.alloc (.cells noHdC 25)) 5 s
  have hT := bytesWorld_bts (w.alloc (.cells noHdC 25)) s (by have := HLEN.out.2.1; omega)
  have hsz : (w.alloc (.cells noHdC 25)).heap.size = w.heap.size + 1 := by simp
  rw [hsz] at hT
  unfold noHdC at hT g2 g1 hR
  clear hsz
  have hR' := hR.new g2
  generalize Lib.bytesWorld (w.alloc (.cells #[.int .i64 0, .int .i64 0, .int .i64 0, .string ⟨#[]⟩] 25)) 5 s = w1 at *
  generalize grownCap (w.alloc (.cells #[.int .i64 0, .int .i64 0, .int .i64 0, .string ⟨#[]⟩] 25)) s.size 0 5 = cp at *
  rw [HLEN.out.2.2] at hT
  have HR := Lib.hid hR'
  have HG1 := Lib.hid (World.grownBy.trans g1 g2)
  refine (newReader_any _ l w1 hT (by have := HLEN.out; omega)).mono ?_
  rintro e w2 ⟨r, g, rfl, k1, k2, k3, k4, k5⟩
  clear hT hR hR' g1 g2
  have hrh := RH.begin (xs := #[.int .i64 0, .int .i64 0, .int .i64 0, .string ⟨#[]⟩]) HR.out HG1.out (Nat.le_refl _) k1 k2 k3 k4 k5
  have HRH := Lib.hid hrh
  clear hrh k1 k2 k3 k4 k5 HR HG1
  go_wp2_with fail
  generalize w2.alloc (.cells #[.int .i64 0, .int .i64 0, .int .i64 0, .string ⟨#[]⟩] 25) = w3 at *
  generalize w2.heap.size = H at *
  generalize w.heap.size = R at *
  refine (HN.out r g _ _ HRH.out.rdr).mono ?_
  intro e v0 hd
  rw [E.out.1] at hd
  obtain rfl := hd.1
  replace HRH := Lib.hid (HRH.out.next hd)
  clear hd
  have c1 := HRH.out.var.cell (i := 1) (x := .int .i64 0) rfl
  have f1 := HRH.out.var.frozen 1
  go_wp2_with fail
  replace HRH := Lib.hid (HRH.out.set 1 (.int .i64 n0))
  simp only [List.setIfInBounds_toArray, List.set_cons_succ, List.set_cons_zero] at HRH
  generalize v0.setCell ⟨H, 1, none⟩ (.int .i64 n0) = v1s at *
  clear c1 f1
  refine (HN.out r g _ _ HRH.out.rdr).mono ?_
  intro e v1 hd
  rw [E.out.2.1] at hd
  obtain rfl := hd.1
  replace HRH := Lib.hid (HRH.out.next hd)
  clear hd
  go_wp2_with fail
  refine (HN.out r g _ _ HRH.out.rdr).mono ?_
  intro e v2 hd
  rw [E.out.2.2.1] at hd
  obtain rfl := hd.1
  replace HRH := Lib.hid (HRH.out.next hd)
  clear hd
  go_wp2_with fail
  refine (HN.out r g _ _ HRH.out.rdr).mono ?_
  intro e v3 hd
  rw [E.out.2.2.2.1] at hd
  obtain rfl := hd.1
  replace HRH := Lib.hid (HRH.out.next hd)
  clear hd
  go_wp2_with fail
  refine (HN.out r g _ _ HRH.out.rdr).mono ?_
  intro e v4 hd
  rw [E.out.2.2.2.2.1] at hd
  obtain rfl := hd.1
  replace HRH := Lib.hid (HRH.out.next hd)
  clear hd
  go_wp2_with fail
  refine (HN.out r g _ _ HRH.out.rdr).mono ?_
  intro e v5 hd
  rw [E.out.2.2.2.2.2] at hd
  obtain rfl := hd.1
  replace HRH := Lib.hid (HRH.out.next hd)
  clear hd
  have c0 := HRH.out.var.cell (i := 0) (x := .int .i64 0) rfl
  have f0 := HRH.out.var.frozen 0
  have c2 := HRH.out.var.cell (i := 2) (x := .int .i64 0) rfl
  have f2 := HRH.out.var.frozen 2
  go_wp2_with fail
  replace HRH := Lib.hid (HRH.out.set 0 (.int .i64 n4))
  simp only [List.setIfInBounds_toArray, List.set_cons_zero] at HRH
  generalize v5.setCell ⟨H, 0, none⟩ (.int .i64 n4) = v0s at *
  clear c0 f0
  replace HRH := Lib.hid (HRH.out.set 2 (.int .i64 n5))
  simp only [List.setIfInBounds_toArray, List.set_cons_succ, List.set_cons_zero] at HRH
  generalize v0s.setCell ⟨H, 2, none⟩ (.int .i64 n5) = v2s at *
  clear c2 f2
  have HC := Lib.hid (fun w => client_any n4 w)
  refine (ok_s r g s5 _ HRH.out.rdr).mono ?_
  rintro e w' ⟨rfl, rfl⟩
  clear HN HB E
  have d0 := HRH.out.res.cell (i := 0) (x := .int .i64 0) rfl
  have d1 := HRH.out.res.cell (i := 1) (x := .int .i64 0) rfl
  have d2 := HRH.out.res.cell (i := 2) (x := .int .i64 0) rfl
  have d3 := HRH.out.res.cell (i := 3) (x := .string ⟨#[]⟩) rfl
  have e0 := HRH.out.res.frozen 0
  have e1 := HRH.out.res.frozen 1
  have e2 := HRH.out.res.frozen 2
  have e3 := HRH.out.res.frozen 3
  have c0 := HRH.out.var.cell (i := 0) (x := .int .i64 n4) rfl
  have c1 := HRH.out.var.cell (i := 1) (x := .int .i64 n0) rfl
  have c2 := HRH.out.var.cell (i := 2) (x := .int .i64 n5) rfl
  have c3 := HRH.out.var.cell (i := 3) (x := .string ⟨#[]⟩) rfl
  have f3 := HRH.out.var.frozen 3
  by_cases q0 : s5.isSome = false
  · rw [q0]
    go_wp2_with (first | (go_at_call 20; refine (HC.out _).mono ?_; rintro e w' ⟨rfl, rfl⟩))
    obtain ⟨hb, hg⟩ := HRH.out.told4 (.int .i64 0) (.int .i64 0) (.int .i64 0) (.string ⟨#[]⟩)
    clear d0 d1 d2 d3 e0 e1 e2 e3 c0 c1 c2 c3
    generalize World.setCell _ _ _ = wE at *
    have k0 := hb.cell (i := 0) (x := .int .i64 0) rfl
    have k1 := hb.cell (i := 1) (x := .int .i64 0) rfl
    have k2 := hb.cell (i := 2) (x := .int .i64 0) rfl
    have k3 := hb.cell (i := 3) (x := .string ⟨#[]⟩) rfl
    exact bodyPost_ret (v := .tuple #[hdV noHd, .int .i64 4]) (by simp [results, Try.results13, go_sem, hdV, noHd, txt, k0, k1, k2, k3]) rfl ⟨by unfold gRead; rw [if_pos (.inl q0)], hg⟩
  · rw [Bool.not_eq_false] at q0; rw [q0]
    by_cases q1 : n1 = 0
    · by_cases q4 : 1 ≤ n4 ∧ n4 ≤ 16
      · rw [decide_eq_true q4] at HC
        have HQ := Lib.hid (show ¬ (s5.isSome = false ∨ n1 ≠ 0 ∨ ¬ (1 ≤ n4 ∧ n4 ≤ 16)) by simp [q0, q1, q4])
        subst q1
        by_cases q2 : n2 = 284 ∧ n3 = 3
        · obtain ⟨rfl, rfl⟩ := q2
          have HQ2 := Lib.hid (show ¬ ((284 : Int) ≠ 284 ∨ (3 : Int) ≠ 3) by simp)
          by_cases q5 : 19 ≤ n5
          · have HQ5 := Lib.hid q5
            go_wp2_with (first | (go_at_call 20; refine (HC.out _).mono ?_; rintro e w' ⟨rfl, rfl⟩))
            obtain ⟨hb, hg⟩ := HRH.out.told4 (.int .i64 n4) (.int .i64 n0) (.int .i64 n5) (.string ⟨#[]⟩)
            clear d0 d1 d2 d3 e0 e1 e2 e3 c0 c1 c2 c3
            generalize World.setCell _ _ _ = wE at *
            have k0 := hb.cell (i := 0) (x := .int .i64 n4) rfl
            have k1 := hb.cell (i := 1) (x := .int .i64 n0) rfl
            have k2 := hb.cell (i := 2) (x := .int .i64 n5) rfl
            have k3 := hb.cell (i := 3) (x := .string ⟨#[]⟩) rfl
            exact bodyPost_ret (v := .tuple #[hdV ⟨n4, n0, n5, []⟩, .int .i64 62]) (by simp [results, Try.results13, go_sem, hdV,  txt, k0, k1, k2, k3]) rfl ⟨by unfold gRead; rw [if_neg HQ.out, if_neg HQ2.out, if_pos HQ5.out], hg⟩
          · have HQ5 := Lib.hid q5
            go_wp2_with (first | (go_at_call 20; refine (HC.out _).mono ?_; rintro e w' ⟨rfl, rfl⟩))
            refine (left_s r g s5 _ HRH.out.rdr).mono ?_
            rintro e w' ⟨rfl, rfl⟩
            clear d0 d1 d2 d3 e0 e1 e2 e3 c0 c1 c2 c3 f3
            go_wp2_with fail
            refine (fixed_s r g s5 _ _ HRH.out.rdr).mono ?_
            intro e wf hd
            obtain rfl := hd.1
            have HA := Lib.hid (show gRead n0 0 284 3 n4 n5 s5 = (⟨n4, n0, n5, (rFixed (rLeft s5) s5).1⟩, 0) by unfold gRead; rw [if_neg HQ.out, if_neg HQ2.out, if_neg (show ¬ 19 ≤ n5 by have := HQ5.out; omega)])
            replace HRH := Lib.hid (HRH.out.next hd)
            clear hd
            generalize (rFixed (↑(rLeft s5)) s5).1 = bd at *
            have c3o := HRH.out.var.cell (i := 3) (x := .string ⟨#[]⟩) rfl
            have f3 := HRH.out.var.frozen 3
            replace HRH := Lib.hid (HRH.out.set 3 (.string ⟨bd.toArray⟩))
            simp only [List.setIfInBounds_toArray, List.set_cons_succ, List.set_cons_zero] at HRH
            have c0 := HRH.out.var.cell (i := 0) (x := .int .i64 n4) rfl
            have c1 := HRH.out.var.cell (i := 1) (x := .int .i64 n0) rfl
            have c2 := HRH.out.var.cell (i := 2) (x := .int .i64 n5) rfl
            have c3 := HRH.out.var.cell (i := 3) (x := .string ⟨bd.toArray⟩) rfl
            have d0 := HRH.out.res.cell (i := 0) (x := .int .i64 0) rfl
            have d1 := HRH.out.res.cell (i := 1) (x := .int .i64 0) rfl
            have d2 := HRH.out.res.cell (i := 2) (x := .int .i64 0) rfl
            have d3 := HRH.out.res.cell (i := 3) (x := .string ⟨#[]⟩) rfl
            have e0 := HRH.out.res.frozen 0
            have e1 := HRH.out.res.frozen 1
            have e2 := HRH.out.res.frozen 2
            have e3 := HRH.out.res.frozen 3
            go_wp2_with fail
            obtain ⟨hb, hg⟩ := HRH.out.told4 (.int .i64 n4) (.int .i64 n0) (.int .i64 n5) (.string ⟨bd.toArray⟩)
            clear d0 d1 d2 d3 e0 e1 e2 e3 c0 c1 c2 c3 c3o f3 HRH
            generalize World.setCell _ _ _ = wE at *
            have k0 := hb.cell (i := 0) (x := .int .i64 n4) rfl
            have k1 := hb.cell (i := 1) (x := .int .i64 n0) rfl
            have k2 := hb.cell (i := 2) (x := .int .i64 n5) rfl
            have k3 := hb.cell (i := 3) (x := .string ⟨bd.toArray⟩) rfl
            exact bodyPost_ret (v := .tuple #[hdV ⟨n4, n0, n5, bd⟩, .int .i64 0]) (by simp [results, Try.results13, go_sem, hdV, txt, k0, k1, k2, k3]) rfl ⟨by rw [HA.out], hg⟩
        · have HQ2 := Lib.hid (show n2 ≠ 284 ∨ n3 ≠ 3 by omega)
          have q3 : (n2 != 284) = true ∨ (n2 != 284) = false ∧ (n3 != 3) = true := by simp; omega
          rcases q3 with q3 | ⟨q3, q6⟩
          all_goals
            go_wp2_with (first | (go_at_call 20; refine (HC.out _).mono ?_; rintro e w' ⟨rfl, rfl⟩))
            obtain ⟨hb, hg⟩ := HRH.out.told4 (.int .i64 n4) (.int .i64 n0) (.int .i64 n5) (.string ⟨#[]⟩)
            clear d0 d1 d2 d3 e0 e1 e2 e3 c0 c1 c2 c3
            generalize World.setCell _ _ _ = wE at *
            have k0 := hb.cell (i := 0) (x := .int .i64 n4) rfl
            have k1 := hb.cell (i := 1) (x := .int .i64 n0) rfl
            have k2 := hb.cell (i := 2) (x := .int .i64 n5) rfl
            have k3 := hb.cell (i := 3) (x := .string ⟨#[]⟩) rfl
            exact bodyPost_ret (v := .tuple #[hdV ⟨n4, n0, n5, []⟩, .int .i64 63]) (by simp [results, Try.results13, go_sem, hdV,  txt, k0, k1, k2, k3]) rfl ⟨by unfold gRead; rw [if_neg HQ.out, if_pos HQ2.out], hg⟩
      · rw [decide_eq_false q4] at HC
        have HQ := Lib.hid q4
        clear q4
        go_wp2_with (first | (go_at_call 20; refine (HC.out _).mono ?_; rintro e w' ⟨rfl, rfl⟩))
        obtain ⟨hb, hg⟩ := HRH.out.told4 (.int .i64 0) (.int .i64 0) (.int .i64 0) (.string ⟨#[]⟩)
        clear d0 d1 d2 d3 e0 e1 e2 e3 c0 c1 c2 c3
        generalize World.setCell _ _ _ = wE at *
        have k0 := hb.cell (i := 0) (x := .int .i64 0) rfl
        have k1 := hb.cell (i := 1) (x := .int .i64 0) rfl
        have k2 := hb.cell (i := 2) (x := .int .i64 0) rfl
        have k3 := hb.cell (i := 3) (x := .string ⟨#[]⟩) rfl
        exact bodyPost_ret (v := .tuple #[hdV noHd, .int .i64 4]) (by simp [results, Try.results13, go_sem, hdV, noHd, txt, k0, k1, k2, k3]) rfl ⟨by unfold gRead; rw [if_pos (.inr (.inr HQ.out))], hg⟩
    · have q2 : (n1 != 0) = true := by simpa using q1
      go_wp2_with (first | (go_at_call 20; refine (HC.out _).mono ?_; rintro e w' ⟨rfl, rfl⟩))
      obtain ⟨hb, hg⟩ := HRH.out.told4 (.int .i64 0) (.int .i64 0) (.int .i64 0) (.string ⟨#[]⟩)
      clear d0 d1 d2 d3 e0 e1 e2 e3 c0 c1 c2 c3
      generalize World.setCell _ _ _ = wE at *
      have k0 := hb.cell (i := 0) (x := .int .i64 0) rfl
      have k1 := hb.cell (i := 1) (x := .int .i64 0) rfl
      have k2 := hb.cell (i := 2) (x := .int .i64 0) rfl
      have k3 := hb.cell (i := 3) (x := .string ⟨#[]⟩) rfl
      exact bodyPost_ret (v := .tuple #[hdV noHd, .int .i64 4]) (by simp [results, Try.results13, go_sem, hdV, noHd, txt, k0, k1, k2, k3]) rfl ⟨by unfold gRead; rw [if_pos (.inr (.inl q1))], hg⟩

theorem Read_any (s : ByteArray) (w : World) (hs : s.size ≤ 1000000000) : Calls Try.prog 13 #[.string s] w (HT w (cRead s.data.toList)) := by
  have hz : s.data.toList.length = s.size := by simp
  by_cases h : 4096 < s.size ∨ s.size % 4 ≠ 0
  · have e : cRead s.data.toList = (noHd, 4) := if_pos (by omega)
    rw [e]
    exact read_off s w hs h
  · exact read_on s _ w (by omega) (by omega) rfl
end Go.Proofs.Ytkhlmfnfcdhceaa
