/- The document's Read. -/
import Derived.Test.YtkhlmfnfcdhceaaCallJ
namespace Go.Proofs.Ytkhlmfnfcdhceaa
open Go.RowKit

set_option maxRecDepth 10000 in
set_option maxHeartbeats 1000000 in
theorem rread_off (s : ByteArray) (w : World) (hs : s.size ≤ 1000000000) (h : 4096 < s.size ∨ s.size % 4 ≠ 0 ∨ s.size < 24) : Calls Try.prog 18 #[.string s] w (HT w (noHd, 4)) := by
  have hl : (s.size : Int) ≤ 1000000000 := by omega
  have key : decide (4096 < (s.size : Int)) = true ∨ decide (4096 < (s.size : Int)) = false ∧ ((s.size : Int) % 4 != 0) = true ∨ decide (4096 < (s.size : Int)) = false ∧ ((s.size : Int) % 4 != 0) = false ∧ decide ((s.size : Int) < 24) = true := by
    by_cases h1 : 4096 < s.size
    · exact .inl (by simp; omega)
    · by_cases h2 : s.size % 4 = 0
      · exact .inr (.inr ⟨by simp; omega, by simp; omega, by simp; omega⟩)
      · exact .inr (.inl ⟨by simp; omega, by simp; omega⟩)
  clear h hs
  rcases key with h1 | ⟨h1, h2⟩ | ⟨h1, h2, h3⟩
  all_goals
    go_enter Try.func18, Try.ntmps18
    go_wp2_with fail
    exact bodyPost_ret (v := .tuple #[hdV noHd, .int .i64 4]) (by simp [results, Try.results18, go_sem, hdV, noHd, txt]) rfl ⟨rfl, World.grownBy_alloc _ _ _⟩

/-- What the six words say. -/
def Judged (w0 w1 w2 w3 w4 w5 : Nat) (l : List UInt8) (p : Hd × Int) : Prop :=
  (((w1 : Int) != 0) = true ∧ p = (noHd, 4)) ∨ (w1 = 0 ∧ decide ((w4 : Int) < 1) = true ∧ p = (noHd, 4)) ∨ (w1 = 0 ∧ decide ((w4 : Int) < 1) = false ∧ decide (16 < (w4 : Int)) = true ∧ p = (noHd, 4)) ∨
  (w1 = 0 ∧ decide ((w4 : Int) < 1) = false ∧ decide (16 < (w4 : Int)) = false ∧ ((((w2 : Int) != 284) = true ∧ p = (⟨w4, w0, w5, []⟩, 63)) ∨ (w2 = 284 ∧ ((w3 : Int) != 3) = true ∧ p = (⟨w4, w0, w5, []⟩, 63)) ∨
    (w2 = 284 ∧ w3 = 3 ∧ decide (19 ≤ (w5 : Int)) = true ∧ p = (⟨w4, w0, w5, []⟩, 62)) ∨ (w2 = 284 ∧ w3 = 3 ∧ decide (19 ≤ (w5 : Int)) = false ∧ p = (⟨w4, w0, w5, l⟩, 0))))

theorem judged (w0 w1 w2 w3 w4 w5 : Nat) (l : List UInt8) : Judged w0 w1 w2 w3 w4 w5 l (cJudge w0 w1 w2 w3 w4 w5 l) := by
  unfold Judged cJudge
  by_cases q1 : w1 = 0
  · by_cases q2 : w4 < 1
    · exact .inr (.inl ⟨q1, by simp; omega, by rw [if_pos (.inr (.inl q2))]⟩)
    · by_cases q3 : 16 < w4
      · exact .inr (.inr (.inl ⟨q1, by simp; omega, by simp; omega, by rw [if_pos (.inr (.inr q3))]⟩))
      · refine .inr (.inr (.inr ⟨q1, by simp; omega, by simp; omega, ?_⟩))
        rw [if_neg (by omega)]
        by_cases q4 : w2 = 284
        · by_cases q5 : w3 = 3
          · rw [if_neg (by omega)]
            by_cases q6 : 19 ≤ w5
            · rw [if_pos q6]; exact .inr (.inr (.inl ⟨q4, q5, by simp; omega, rfl⟩))
            · rw [if_neg q6]; exact .inr (.inr (.inr ⟨q4, q5, by simp; omega, rfl⟩))
          · rw [if_pos (.inr q5)]; exact .inr (.inl ⟨q4, by simp; omega, rfl⟩)
        · rw [if_pos (.inl q4)]; exact .inl ⟨by simp; omega, rfl⟩
  · exact .inl ⟨by simp; omega, by rw [if_pos (.inl q1)]⟩

set_option maxRecDepth 10000 in
set_option maxHeartbeats 6000000 in
theorem rread_on (s : ByteArray) (w0 w1 w2 w3 w4 w5 : Nat) (l : List UInt8) (w : World) (hs : s.size ≤ 4096) (h4 : s.size % 4 = 0) (hl : s.data.toList = six w0 w1 w2 w3 w4 w5 l)
    (b0 : w0 < 4294967296) (b1 : w1 < 4294967296) (b2 : w2 < 4294967296) (b3 : w3 < 4294967296) (b4 : w4 < 4294967296) (b5 : w5 < 4294967296)
    (p : Hd × Int) (hp : Judged w0 w1 w2 w3 w4 w5 l p) :
    Calls Try.prog 18 #[.string s] w (HT w p) := by
  have hlen : s.size = l.length + 24 := by rw [← six_len w0 w1 w2 w3 w4 w5 l, ← hl]; simp
  have HX24 : Hid (s.extract 0 24 = ⟨(six w0 w1 w2 w3 w4 w5 []).toArray⟩) := Lib.hid (by rw [extract_to, hl]; rfl)
  have HX : Hid (s.extract 24 s.size = ⟨l.toArray⟩) := Lib.hid (by rw [extract_from, hl]; rfl)
  have hcv : ∀ (s : ByteArray) (w : World), (convert 9 57 (.string s)).run Try.prog w = .ok (.slice (some ⟨w.heap.size, 0, none⟩) s.size (grownCap w s.size 0 5)) (Lib.bytesWorld w 5 s) := fun s w => Lib.run_convert_string_bytes w _ _ _ s und9 und22 und5
  have HMIN : Hid (min 24 s.size = 24) := Lib.hid (by omega)
  have HN := Lib.hid (fun (r : Nat) (g : Option Nat) (s : St) (w : World) (hr : RRdrS w r g s) => refWord_s r g s w hr)
  have HP := Lib.hid hp
  have HSIX := Lib.hid (rWs_six w0 w1 w2 w3 w4 w5 b0 b1 b2 b3 b4 b5)
  have HLEN := Lib.hid hlen
  have k4 : ((s.size : Int) % 4 != 0) = false := by simp; omega
  have k2 : decide (4096 < (s.size : Int)) = false := by simp; omega
  have k3 : decide ((s.size : Int) < 24) = false := by simp; omega
  have k5 : (s.size : Int) ≤ 4096 := by omega
  have k6 : (24 : Int) ≤ s.size := by omega
  clear hl hs h4 hlen b0 b1 b2 b3 b4 b5 hp
  go_enter Try.func18, Try.ntmps18
  go_wp2_with fail
  simp only [HMIN.out, HX24.out]
  clear hcv
  have g1 := World.grownBy_alloc w (.cells noHdC 42) none
  have hR := Blk.made w 42 noHdC
  have g2 := bytesWorld_grown (w.alloc (.cells noHdC 42)) 5 ⟨(six w0 w1 w2 w3 w4 w5 []).toArray⟩
  have hT := bytesWorld_bts (w.alloc (.cells noHdC 42)) ⟨(six w0 w1 w2 w3 w4 w5 []).toArray⟩ (by show (six w0 w1 w2 w3 w4 w5 []).length ≤ _; rw [six_len]; simp)
  have hsz : (w.alloc (.cells noHdC 42)).heap.size = w.heap.size + 1 := by simp
  rw [hsz, show (⟨(six w0 w1 w2 w3 w4 w5 []).toArray⟩ : ByteArray).size = 24 from rfl, show (⟨(six w0 w1 w2 w3 w4 w5 []).toArray⟩ : ByteArray).data.toList = six w0 w1 w2 w3 w4 w5 [] from rfl] at hT
  unfold noHdC at hT g2 g1 hR
  clear hsz
  have hR' := hR.new g2
  generalize Lib.bytesWorld (w.alloc (.cells #[.int .i64 0, .int .i64 0, .int .i64 0, .string ⟨#[]⟩] 42)) 5 ⟨(six w0 w1 w2 w3 w4 w5 []).toArray⟩ = v1 at *
  generalize grownCap (w.alloc (.cells #[.int .i64 0, .int .i64 0, .int .i64 0, .string ⟨#[]⟩] 42)) 24 0 5 = cp at *
  have HR := Lib.hid hR'
  have HG1 := Lib.hid (World.grownBy.trans g1 g2)
  refine (refNewReader_any _ (six w0 w1 w2 w3 w4 w5 []) v1 hT (by rw [six_len]; simp)).mono ?_
  rintro e v2 ⟨r, g, rfl, y1, y2, y3, y4, y5⟩
  clear hT hR hR' g1 g2
  have HRL := Lib.hid (RL.begin (RP.begin HR.out HG1.out (Nat.le_refl _) y1 y2 y3 y4 y5))
  clear y1 y2 y3 y4 y5 HR HG1
  generalize six w0 w1 w2 w3 w4 w5 [] = six0 at *
  go_wp2_with fail
  generalize w.heap.size = R at *
  generalize hbs : v2.heap.size = base at *
  clear hbs
  go_loopw [5, 6] (fun v i w' => ∃ k : Nat, k ≤ 6 ∧ i = .int .i64 k ∧ RL w w' R r g 42 #[.int .i64 0, .int .i64 0, .int .i64 0, .string ⟨#[]⟩] (rWs (some six0) k).2 base v (rWs (some six0) k).1) (fun _ i _ => 6 - (intOf i).toNat)
  case atStart => exact ⟨0, Nat.zero_le _, rfl, HRL.out⟩
  case round =>
    clear HRL
    obtain ⟨k, hk, rfl, hrl⟩ := hrel
    obtain ⟨a1, n1, c1, rfl⟩ := hrl.own.form
    by_cases hlt : k < 6
    · have HL := Lib.hid (rWs_len (some six0) k)
      have HS : Hid (rWs (some six0) (k + 1) = ((rWs (some six0) k).1 ++ [(rWord (rWs (some six0) k).2).1], (rWord (rWs (some six0) k).2).2)) := Lib.hid rfl
      have HRG := Lib.hid (rWord_range (rWs (some six0) k).2)
      have HRL := Lib.hid hrl
      have HLT := Lib.hid (And.intro hlt hk)
      have hk6 : (k : Int) < 6 := by omega
      clear hrl hlt hk k2 k3 k4 k5 k6
      generalize rWs (some six0) k = st at *
      obtain ⟨ns, t⟩ := st
      dsimp only at HL HS HRL HRG
      go_wp2_with fail
      refine (HN.out r g _ _ HRL.out.rp.rdr).mono ?_
      intro e v3 hd
      obtain rfl := hd.1
      replace HRL := Lib.hid (HRL.out.next hd)
      clear hd
      generalize rWord t = q at *
      obtain ⟨z, t'⟩ := q
      dsimp only at HRL HS HRG ⊢
      have hz : IntKind.i64.wrap z = z := by have := HRG.out; rw [IntKind.wrap_i64]; omega
      have g3 := World.grownBy_alloc v3 (.cells #[Value.int IntKind.i64 z] 3) none
      have h3 := (Blk.made v3 3 #[Value.int IntKind.i64 z]).cell (i := 0) (x := .int .i64 z) rfl
      have HRL2 := Lib.hid (HRL.out.new g3)
      have H3 := Lib.hid h3
      clear h3 g3
      go_wp2_with (at_builtin; refine wpList_append_int rfl _ _ rfl base _ ns _ _ z rfl rfl HRL2.out.own H3.out rfl (by have := HL.out; have := HLT.out; omega) HRL2.out.le ?_; rintro v7 w7 h6 h7; obtain ⟨a7, n7, c7, rfl⟩ := h6.form; have H6 := Lib.hid (HRL2.out.more h6 h7); clear h6 h7)
      go_roundw
      case rel => exact ⟨k + 1, by have := HLT.out; omega, by go_num, by rw [HS.out]; exact H6.out⟩
      case measure => simp [intOf]; have := HLT.out; omega
    · obtain rfl : k = 6 := by omega
      clear hlt hk
      have hown := hrl.own
      rw [HSIX.out] at hown
      obtain ⟨B, cB, he, hge, hcell⟩ := hown.cells (by simp)
      cases he
      have c0 : wr.cell? ⟨B, 0, none⟩ = some (.int .i64 (w0 : Int)) := hcell 0 (by simp)
      have c1 : wr.cell? ⟨B, 1, none⟩ = some (.int .i64 (w1 : Int)) := hcell 1 (by simp)
      have c2 : wr.cell? ⟨B, 2, none⟩ = some (.int .i64 (w2 : Int)) := hcell 2 (by simp)
      have c3 : wr.cell? ⟨B, 3, none⟩ = some (.int .i64 (w3 : Int)) := hcell 3 (by simp)
      have c4 : wr.cell? ⟨B, 4, none⟩ = some (.int .i64 (w4 : Int)) := hcell 4 (by simp)
      have c5 : wr.cell? ⟨B, 5, none⟩ = some (.int .i64 (w5 : Int)) := hcell 5 (by simp)
      have KEEP : Hid (∀ w', wr.grownBy w' none → (w'.cell? ⟨B, 0, none⟩ = some (.int .i64 (w0 : Int)) ∧ w'.cell? ⟨B, 2, none⟩ = some (.int .i64 (w2 : Int)) ∧ w'.cell? ⟨B, 3, none⟩ = some (.int .i64 (w3 : Int)) ∧ w'.cell? ⟨B, 4, none⟩ = some (.int .i64 (w4 : Int)) ∧ w'.cell? ⟨B, 5, none⟩ = some (.int .i64 (w5 : Int)))) := Lib.hid (fun w' hg => ⟨hg.cell c0 (by simp), hg.cell c2 (by simp), hg.cell c3 (by simp), hg.cell c4 (by simp), hg.cell c5 (by simp)⟩)
      have HRP := Lib.hid hrl.rp
      have hx := HX.out
      clear hrl hown hcell hge HSIX HN HX24 HMIN HX
      simp only [List.length_cons, List.length_nil, Nat.zero_add, Nat.reduceAdd]
      rcases HP.out with ⟨q1, rfl⟩ | ⟨rfl, q2, rfl⟩ | ⟨rfl, q2, q3, rfl⟩ | ⟨rfl, q2, q3, hq⟩
      · skip
        have d0 := HRP.out.res.cell (i := 0) (x := .int .i64 0) rfl
        have d1 := HRP.out.res.cell (i := 1) (x := .int .i64 0) rfl
        have d2 := HRP.out.res.cell (i := 2) (x := .int .i64 0) rfl
        have d3 := HRP.out.res.cell (i := 3) (x := .string ⟨#[]⟩) rfl
        have e0 := HRP.out.res.frozen 0
        have e1 := HRP.out.res.frozen 1
        have e2 := HRP.out.res.frozen 2
        have e3 := HRP.out.res.frozen 3
        go_wp2_with fail
        clear c0 c1 c2 c3 c4 c5 KEEP
        obtain ⟨hb, hg⟩ := HRP.out.told4 (.int .i64 0) (.int .i64 0) (.int .i64 0) (.string ⟨#[]⟩)
        clear d0 d1 d2 d3 e0 e1 e2 e3 HRP
        generalize World.setCell _ _ _ = wE at *
        have k0 := hb.cell (i := 0) (x := .int .i64 0) rfl
        have k1 := hb.cell (i := 1) (x := .int .i64 0) rfl
        have k2 := hb.cell (i := 2) (x := .int .i64 0) rfl
        have k3 := hb.cell (i := 3) (x := .string ⟨#[]⟩) rfl
        exact bodyPost_ret (v := .tuple #[hdV noHd, .int .i64 4]) (by simp [results, Try.results18, go_sem, hdV, noHd, txt, k0, k1, k2, k3]) rfl ⟨rfl, hg⟩
      · skip
        have d0 := HRP.out.res.cell (i := 0) (x := .int .i64 0) rfl
        have d1 := HRP.out.res.cell (i := 1) (x := .int .i64 0) rfl
        have d2 := HRP.out.res.cell (i := 2) (x := .int .i64 0) rfl
        have d3 := HRP.out.res.cell (i := 3) (x := .string ⟨#[]⟩) rfl
        have e0 := HRP.out.res.frozen 0
        have e1 := HRP.out.res.frozen 1
        have e2 := HRP.out.res.frozen 2
        have e3 := HRP.out.res.frozen 3
        go_wp2_with fail
        clear c0 c1 c2 c3 c4 c5 KEEP
        obtain ⟨hb, hg⟩ := HRP.out.told4 (.int .i64 0) (.int .i64 0) (.int .i64 0) (.string ⟨#[]⟩)
        clear d0 d1 d2 d3 e0 e1 e2 e3 HRP
        generalize World.setCell _ _ _ = wE at *
        have k0 := hb.cell (i := 0) (x := .int .i64 0) rfl
        have k1 := hb.cell (i := 1) (x := .int .i64 0) rfl
        have k2 := hb.cell (i := 2) (x := .int .i64 0) rfl
        have k3 := hb.cell (i := 3) (x := .string ⟨#[]⟩) rfl
        exact bodyPost_ret (v := .tuple #[hdV noHd, .int .i64 4]) (by simp [results, Try.results18, go_sem, hdV, noHd, txt, k0, k1, k2, k3]) rfl ⟨rfl, hg⟩
      · skip
        have d0 := HRP.out.res.cell (i := 0) (x := .int .i64 0) rfl
        have d1 := HRP.out.res.cell (i := 1) (x := .int .i64 0) rfl
        have d2 := HRP.out.res.cell (i := 2) (x := .int .i64 0) rfl
        have d3 := HRP.out.res.cell (i := 3) (x := .string ⟨#[]⟩) rfl
        have e0 := HRP.out.res.frozen 0
        have e1 := HRP.out.res.frozen 1
        have e2 := HRP.out.res.frozen 2
        have e3 := HRP.out.res.frozen 3
        go_wp2_with fail
        clear c0 c1 c2 c3 c4 c5 KEEP
        obtain ⟨hb, hg⟩ := HRP.out.told4 (.int .i64 0) (.int .i64 0) (.int .i64 0) (.string ⟨#[]⟩)
        clear d0 d1 d2 d3 e0 e1 e2 e3 HRP
        generalize World.setCell _ _ _ = wE at *
        have k0 := hb.cell (i := 0) (x := .int .i64 0) rfl
        have k1 := hb.cell (i := 1) (x := .int .i64 0) rfl
        have k2 := hb.cell (i := 2) (x := .int .i64 0) rfl
        have k3 := hb.cell (i := 3) (x := .string ⟨#[]⟩) rfl
        exact bodyPost_ret (v := .tuple #[hdV noHd, .int .i64 4]) (by simp [results, Try.results18, go_sem, hdV, noHd, txt, k0, k1, k2, k3]) rfl ⟨rfl, hg⟩
      · have HQ := Lib.hid hq
        clear hq HP
        go_wp2_with fail
        clear c0 c1 c2 c3 c4 c5 q2 q3
        refine wp_region_noPanic ?_
        refine wp_region_held_drew (S := fun w' => w'.cell? ⟨B, 0, none⟩ = some (.int .i64 (w0 : Int)) ∧ w'.cell? ⟨B, 2, none⟩ = some (.int .i64 (w2 : Int)) ∧ w'.cell? ⟨B, 3, none⟩ = some (.int .i64 (w3 : Int)) ∧ w'.cell? ⟨B, 4, none⟩ = some (.int .i64 (w4 : Int)) ∧ w'.cell? ⟨B, 5, none⟩ = some (.int .i64 (w5 : Int))) (by kernel_rfl) (KEEP.out _ (drew_grown _ _)) (fun hHeld => ?_)
        refine wpAnyH_take (i := 0) (v := ?_) (by simp only [List.getElem?_toArray, List.getElem?_cons_zero]; rfl) (by kernel_rfl) (by kernel_rfl) (by kernel_rfl) (fun _ _ _ h => h) (Or.inl ⟨by rfl, ?_⟩) (by assumption) ?_
        rotate_left 1
        · intro w hSw; (try dsimp only at hSw); go_simp; all_goals (with_reducible rfl)
        try simp only [Act.put, List.setIfInBounds_toArray, List.set_cons_zero, List.set_cons_succ]
        refine wpAnyH_take (i := 1) (v := ?_) (by simp only [List.getElem?_toArray, List.getElem?_cons_succ, List.getElem?_cons_zero]; rfl) (by kernel_rfl) (by kernel_rfl) (by kernel_rfl) (fun _ _ _ h => h) (Or.inl ⟨by rfl, ?_⟩) (by assumption) ?_
        rotate_left 1
        · intro w hSw; (try dsimp only at hSw); go_simp; all_goals (with_reducible rfl)
        try simp only [Act.put, List.setIfInBounds_toArray, List.set_cons_zero, List.set_cons_succ]
        refine wpAnyH_take (i := 2) (v := ?_) (by simp only [List.getElem?_toArray, List.getElem?_cons_succ, List.getElem?_cons_zero]; rfl) (by kernel_rfl) (by kernel_rfl) (by kernel_rfl) (fun _ _ _ h => h) (Or.inl ⟨by rfl, ?_⟩) (by assumption) ?_
        rotate_left 1
        · intro w hSw; (try dsimp only at hSw); go_simp; all_goals (with_reducible rfl)
        try simp only [Act.put, List.setIfInBounds_toArray, List.set_cons_zero, List.set_cons_succ]
        refine wpAnyH_take (i := 3) (v := ?_) (by simp only [List.getElem?_toArray, List.getElem?_cons_succ, List.getElem?_cons_zero]; rfl) (by kernel_rfl) (by kernel_rfl) (by kernel_rfl) (fun _ _ _ h => h) (Or.inl ⟨by rfl, ?_⟩) (by assumption) ?_
        rotate_left 1
        · intro w hSw; (try dsimp only at hSw); go_simp; all_goals (with_reducible rfl)
        try simp only [Act.put, List.setIfInBounds_toArray, List.set_cons_zero, List.set_cons_succ]
        refine wpAnyH_take (i := 4) (v := ?_) (by simp only [List.getElem?_toArray, List.getElem?_cons_succ, List.getElem?_cons_zero]; rfl) (by kernel_rfl) (by kernel_rfl) (by kernel_rfl) (fun _ _ _ h => h) (Or.inl ⟨by rfl, ?_⟩) (by assumption) ?_
        rotate_left 1
        · intro w hSw; (try dsimp only at hSw); go_simp; all_goals (with_reducible rfl)
        try simp only [Act.put, List.setIfInBounds_toArray, List.set_cons_zero, List.set_cons_succ]
        refine wpAnyH_take (i := 5) (v := ?_) (by simp only [List.getElem?_toArray, List.getElem?_cons_succ, List.getElem?_cons_zero]; rfl) (by kernel_rfl) (by kernel_rfl) (by kernel_rfl) (fun _ _ _ h => h) (Or.inl ⟨by rfl, ?_⟩) (by assumption) ?_
        rotate_left 1
        · intro w hSw; (try dsimp only at hSw); go_simp; all_goals (with_reducible rfl)
        try simp only [Act.put, List.setIfInBounds_toArray, List.set_cons_zero, List.set_cons_succ]
        refine wpAnyH_take (i := 6) (v := ?_) (by simp only [List.getElem?_toArray, List.getElem?_cons_succ, List.getElem?_cons_zero]; rfl) (by kernel_rfl) (by kernel_rfl) (by kernel_rfl) (fun _ _ _ h => h) (Or.inl ⟨by rfl, ?_⟩) (by assumption) ?_
        rotate_left 1
        · intro w hSw; (try dsimp only at hSw); go_simp; all_goals (with_reducible rfl)
        try simp only [Act.put, List.setIfInBounds_toArray, List.set_cons_zero, List.set_cons_succ]
        refine wpAnyH_take (i := 7) (v := ?_) (by simp only [List.getElem?_toArray, List.getElem?_cons_succ, List.getElem?_cons_zero]; rfl) (by kernel_rfl) (by kernel_rfl) (by kernel_rfl) (fun _ _ _ h => h) (Or.inl ⟨by rfl, ?_⟩) (by assumption) ?_
        rotate_left 1
        · intro w hSw; (try dsimp only at hSw); go_simp; all_goals (with_reducible rfl)
        try simp only [Act.put, List.setIfInBounds_toArray, List.set_cons_zero, List.set_cons_succ]
        refine wpAnyH_take (i := 8) (v := ?_) (by simp only [List.getElem?_toArray, List.getElem?_cons_succ, List.getElem?_cons_zero]; rfl) (by kernel_rfl) (by kernel_rfl) (by kernel_rfl) (fun _ _ _ h => h) (Or.inl ⟨by rfl, ?_⟩) (by assumption) ?_
        rotate_left 1
        · intro w hSw; (try dsimp only at hSw); go_simp; all_goals (with_reducible rfl)
        try simp only [Act.put, List.setIfInBounds_toArray, List.set_cons_zero, List.set_cons_succ]
        refine wpAnyH_take (i := 9) (v := ?_) (by simp only [List.getElem?_toArray, List.getElem?_cons_succ, List.getElem?_cons_zero]; rfl) (by kernel_rfl) (by kernel_rfl) (by kernel_rfl) (fun _ _ _ h => h) (Or.inl ⟨by rfl, ?_⟩) (by assumption) ?_
        rotate_left 1
        · intro w hSw; (try dsimp only at hSw); go_simp; all_goals (with_reducible rfl)
        try simp only [Act.put, List.setIfInBounds_toArray, List.set_cons_zero, List.set_cons_succ]
        refine wpAnyH_ready (rs := [10]) (by kernel_rfl) (by simp) ?_
        refine AllReadyH.cons (by simp only [List.getElem?_toArray, List.getElem?_cons_succ, List.getElem?_cons_zero]; rfl) (fun K hK => ?_) AllReadyH.nil
        go_simp
        have g5 : wr.grownBy (wr.alloc (.cells #[.int .i64 0, .int .i64 0, .int .i64 0, .string ⟨#[]⟩] 42)).drew none := World.grownBy.trans (World.grownBy_alloc _ _ _) (drew_grown _ _)
        refine hK.out _ _ (KEEP.out _ g5) (fun hHeld => ?_)
        clear hK K
        try simp only [Act.put, List.setIfInBounds_toArray, List.set_cons_zero, List.set_cons_succ]
        have hrq := (HRP.out.var #[.int .i64 0, .int .i64 0, .int .i64 0, .string ⟨#[]⟩]).new (drew_grown _ none)
        obtain ⟨H, hH⟩ : ∃ H, H = wr.heap.size := ⟨_, rfl⟩
        have HHH := Lib.hid (Nat.le_of_eq hH.symm)
        rw [← hH] at hrq ⊢
        clear hH
        generalize (wr.alloc (.cells #[.int .i64 0, .int .i64 0, .int .i64 0, .string ⟨#[]⟩] 42)).drew = u1 at *
        have G5 := Lib.hid g5
        clear g5
        have h0 := hrq.var.cell (i := 0) (x := .int .i64 0) rfl
        have h1 := hrq.var.cell (i := 1) (x := .int .i64 0) rfl
        have h2 := hrq.var.cell (i := 2) (x := .int .i64 0) rfl
        have h3 := hrq.var.cell (i := 3) (x := .string ⟨#[]⟩) rfl
        have f0 := hrq.var.frozen 0
        have f1 := hrq.var.frozen 1
        have f2 := hrq.var.frozen 2
        have f3 := hrq.var.frozen 3
        have HRQ := Lib.hid hrq
        clear hrq
        refine wpAnyH_ready (rs := [11]) (by kernel_rfl) (by simp) ?_
        refine AllReadyH.cons (by simp only [List.getElem?_toArray, List.getElem?_cons_succ, List.getElem?_cons_zero]; rfl) (fun K hK => ?_) AllReadyH.nil
        go_simp
        have HRS := Lib.hid ((((HRQ.out.set 0 (.int .i64 w4)).set 1 (.int .i64 w0)).set 2 (.int .i64 w5)).set 3 (.string ⟨#[]⟩))
        simp only [List.setIfInBounds_toArray, List.set_cons_succ, List.set_cons_zero] at HRS
        have g6 := grown_own G5.out (row := some H) (Lib.grownBy_setB (Lib.grownBy_setB (Lib.grownBy_setB (Lib.grownBy_setB (World.grownBy.refl u1 (some H)) 0 (.int .i64 w4)) 1 (.int .i64 w0)) 2 (.int .i64 w5)) 3 (.string ⟨#[]⟩)) (fun n hn => by cases hn; exact HHH.out)
        clear hHeld h0 h1 h2 h3 f0 f1 f2 f3 HRQ
        refine hK.out _ _ (KEEP.out _ g6) (fun hHeld => ?_)
        clear hK K
        try simp only [Act.put, List.setIfInBounds_toArray, List.set_cons_zero, List.set_cons_succ]
        clear g6 G5 HHH KEEP HRP
        refine wpAnyH_done (by kernel_rfl) ?_ _
        refine NoPanic.normal ?_
        generalize World.setCell _ _ _ = u2 at *
        obtain ⟨c0, c2, c3, c4, c5⟩ := hHeld
        rcases HQ.out with ⟨q1, rfl⟩ | ⟨rfl, q1, rfl⟩ | ⟨rfl, rfl, q1, rfl⟩ | ⟨rfl, rfl, q1, rfl⟩
        · skip
          have m0 := HRS.out.var.cell (i := 0) (x := .int .i64 w4) rfl
          have m1 := HRS.out.var.cell (i := 1) (x := .int .i64 w0) rfl
          have m2 := HRS.out.var.cell (i := 2) (x := .int .i64 w5) rfl
          have m3 := HRS.out.var.cell (i := 3) (x := .string ⟨#[]⟩) rfl
          have d0 := HRS.out.res.cell (i := 0) (x := .int .i64 0) rfl
          have d1 := HRS.out.res.cell (i := 1) (x := .int .i64 0) rfl
          have d2 := HRS.out.res.cell (i := 2) (x := .int .i64 0) rfl
          have d3 := HRS.out.res.cell (i := 3) (x := .string ⟨#[]⟩) rfl
          have e0 := HRS.out.res.frozen 0
          have e1 := HRS.out.res.frozen 1
          have e2 := HRS.out.res.frozen 2
          have e3 := HRS.out.res.frozen 3
          go_wp2_with fail
          clear c0 c2 c3 c4 c5 m0 m1 m2 m3
          obtain ⟨hb, hg⟩ := HRS.out.told4 (.int .i64 w4) (.int .i64 w0) (.int .i64 w5) (.string ⟨#[]⟩)
          clear d0 d1 d2 d3 e0 e1 e2 e3 HRS
          generalize World.setCell _ _ _ = wE at *
          have k0 := hb.cell (i := 0) (x := .int .i64 w4) rfl
          have k1 := hb.cell (i := 1) (x := .int .i64 w0) rfl
          have k2 := hb.cell (i := 2) (x := .int .i64 w5) rfl
          have k3 := hb.cell (i := 3) (x := .string ⟨#[]⟩) rfl
          exact bodyPost_ret (v := .tuple #[hdV ⟨w4, w0, w5, []⟩, .int .i64 63]) (by simp [results, Try.results18, go_sem, hdV,  txt, k0, k1, k2, k3]) rfl ⟨rfl, hg⟩
        · skip
          have m0 := HRS.out.var.cell (i := 0) (x := .int .i64 w4) rfl
          have m1 := HRS.out.var.cell (i := 1) (x := .int .i64 w0) rfl
          have m2 := HRS.out.var.cell (i := 2) (x := .int .i64 w5) rfl
          have m3 := HRS.out.var.cell (i := 3) (x := .string ⟨#[]⟩) rfl
          have d0 := HRS.out.res.cell (i := 0) (x := .int .i64 0) rfl
          have d1 := HRS.out.res.cell (i := 1) (x := .int .i64 0) rfl
          have d2 := HRS.out.res.cell (i := 2) (x := .int .i64 0) rfl
          have d3 := HRS.out.res.cell (i := 3) (x := .string ⟨#[]⟩) rfl
          have e0 := HRS.out.res.frozen 0
          have e1 := HRS.out.res.frozen 1
          have e2 := HRS.out.res.frozen 2
          have e3 := HRS.out.res.frozen 3
          go_wp2_with fail
          clear c0 c2 c3 c4 c5 m0 m1 m2 m3
          obtain ⟨hb, hg⟩ := HRS.out.told4 (.int .i64 w4) (.int .i64 w0) (.int .i64 w5) (.string ⟨#[]⟩)
          clear d0 d1 d2 d3 e0 e1 e2 e3 HRS
          generalize World.setCell _ _ _ = wE at *
          have k0 := hb.cell (i := 0) (x := .int .i64 w4) rfl
          have k1 := hb.cell (i := 1) (x := .int .i64 w0) rfl
          have k2 := hb.cell (i := 2) (x := .int .i64 w5) rfl
          have k3 := hb.cell (i := 3) (x := .string ⟨#[]⟩) rfl
          exact bodyPost_ret (v := .tuple #[hdV ⟨w4, w0, w5, []⟩, .int .i64 63]) (by simp [results, Try.results18, go_sem, hdV,  txt, k0, k1, k2, k3]) rfl ⟨rfl, hg⟩
        · skip
          have m0 := HRS.out.var.cell (i := 0) (x := .int .i64 w4) rfl
          have m1 := HRS.out.var.cell (i := 1) (x := .int .i64 w0) rfl
          have m2 := HRS.out.var.cell (i := 2) (x := .int .i64 w5) rfl
          have m3 := HRS.out.var.cell (i := 3) (x := .string ⟨#[]⟩) rfl
          have d0 := HRS.out.res.cell (i := 0) (x := .int .i64 0) rfl
          have d1 := HRS.out.res.cell (i := 1) (x := .int .i64 0) rfl
          have d2 := HRS.out.res.cell (i := 2) (x := .int .i64 0) rfl
          have d3 := HRS.out.res.cell (i := 3) (x := .string ⟨#[]⟩) rfl
          have e0 := HRS.out.res.frozen 0
          have e1 := HRS.out.res.frozen 1
          have e2 := HRS.out.res.frozen 2
          have e3 := HRS.out.res.frozen 3
          go_wp2_with fail
          clear c0 c2 c3 c4 c5 m0 m1 m2 m3
          obtain ⟨hb, hg⟩ := HRS.out.told4 (.int .i64 w4) (.int .i64 w0) (.int .i64 w5) (.string ⟨#[]⟩)
          clear d0 d1 d2 d3 e0 e1 e2 e3 HRS
          generalize World.setCell _ _ _ = wE at *
          have k0 := hb.cell (i := 0) (x := .int .i64 w4) rfl
          have k1 := hb.cell (i := 1) (x := .int .i64 w0) rfl
          have k2 := hb.cell (i := 2) (x := .int .i64 w5) rfl
          have k3 := hb.cell (i := 3) (x := .string ⟨#[]⟩) rfl
          exact bodyPost_ret (v := .tuple #[hdV ⟨w4, w0, w5, []⟩, .int .i64 62]) (by simp [results, Try.results18, go_sem, hdV,  txt, k0, k1, k2, k3]) rfl ⟨rfl, hg⟩
        · skip
          have m3o := HRS.out.var.cell (i := 3) (x := .string ⟨#[]⟩) rfl
          have f3 := HRS.out.var.frozen 3
          replace HRS := Lib.hid (HRS.out.set 3 (.string ⟨l.toArray⟩))
          simp only [List.setIfInBounds_toArray, List.set_cons_succ, List.set_cons_zero] at HRS
          have m0 := HRS.out.var.cell (i := 0) (x := .int .i64 w4) rfl
          have m1 := HRS.out.var.cell (i := 1) (x := .int .i64 w0) rfl
          have m2 := HRS.out.var.cell (i := 2) (x := .int .i64 w5) rfl
          have m3 := HRS.out.var.cell (i := 3) (x := .string ⟨l.toArray⟩) rfl
          have d0 := HRS.out.res.cell (i := 0) (x := .int .i64 0) rfl
          have d1 := HRS.out.res.cell (i := 1) (x := .int .i64 0) rfl
          have d2 := HRS.out.res.cell (i := 2) (x := .int .i64 0) rfl
          have d3 := HRS.out.res.cell (i := 3) (x := .string ⟨#[]⟩) rfl
          have e0 := HRS.out.res.frozen 0
          have e1 := HRS.out.res.frozen 1
          have e2 := HRS.out.res.frozen 2
          have e3 := HRS.out.res.frozen 3
          have k6' := k6
          clear k6
          go_wp2_with fail
          clear c0 c2 c3 c4 c5 m0 m1 m2 m3 m3o f3
          obtain ⟨hb, hg⟩ := HRS.out.told4 (.int .i64 w4) (.int .i64 w0) (.int .i64 w5) (.string ⟨l.toArray⟩)
          clear d0 d1 d2 d3 e0 e1 e2 e3 HRS
          generalize World.setCell _ _ _ = wE at *
          have k0 := hb.cell (i := 0) (x := .int .i64 w4) rfl
          have k1 := hb.cell (i := 1) (x := .int .i64 w0) rfl
          have k2 := hb.cell (i := 2) (x := .int .i64 w5) rfl
          have k3 := hb.cell (i := 3) (x := .string ⟨l.toArray⟩) rfl
          exact bodyPost_ret (v := .tuple #[hdV ⟨w4, w0, w5, l⟩, .int .i64 0]) (by simp [results, Try.results18, go_sem, hdV,  txt, k0, k1, k2, k3]) rfl ⟨rfl, hg⟩

theorem rRead_any (s : ByteArray) (w : World) (hs : s.size ≤ 1000000000) : Calls Try.prog 18 #[.string s] w (HT w (cRead s.data.toList)) := by
  have hz : s.data.toList.length = s.size := by simp
  by_cases h : 4096 < s.size ∨ s.size % 4 ≠ 0 ∨ s.size < 24
  · have e : cRead s.data.toList = (noHd, 4) := if_pos (by omega)
    rw [e]
    exact rread_off s w hs h
  · obtain ⟨w0, w1, w2, w3, w4, w5, l, ⟨b0, b1, b2, b3, b4, b5⟩, hl, hlen⟩ := of_six s.data.toList (by omega)
    refine rread_on s w0 w1 w2 w3 w4 w5 l w (by omega) (by omega) hl b0 b1 b2 b3 b4 b5 _ ?_
    rw [hl, cRead_six _ _ _ _ _ _ _ b0 b1 b2 b3 b4 b5, if_neg (by omega)]
    exact judged _ _ _ _ _ _ _
end Go.Proofs.Ytkhlmfnfcdhceaa
