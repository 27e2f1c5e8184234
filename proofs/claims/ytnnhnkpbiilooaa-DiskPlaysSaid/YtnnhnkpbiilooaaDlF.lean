/- The steps that came in; large; same. -/
import Derived.Test.YtnnhnkpbiilooaaDlE
import Derived.Deep.Slices
import Derived.ChangeSame
import Derived.SizedLaws
namespace Go.Proofs.Ytnnhnkpbiilooaa
open Go.RowKit Go.Maps

/-- A step: what, where, of which byte, what is kept. -/
structure Stp where
  kd : UInt8
  n : Int
  c : UInt8
  kv : Value
  ks : List Bool
instance : Inhabited Stp := ⟨⟨0, 0, 0, .slice none 0 0, []⟩⟩
structure StpAt (w : World) (b o : Nat) (x : Stp) : Prop where
  kd : w.cell? ⟨b, o, none⟩ = some (.int .u8 (x.kd.toNat : Int))
  n : w.cell? ⟨b, o + 1, none⟩ = some (.int .i64 x.n)
  c : w.cell? ⟨b, o + 2, none⟩ = some (.int .u8 (x.c.toNat : Int))
  kv : w.cell? ⟨b, o + 3, none⟩ = some x.kv
  hn : -9223372036854775808 ≤ x.n ∧ x.n ≤ 9223372036854775807
  bls : Bls w x.kv x.ks
  hk : x.ks.length ≤ 140737488355328
/-- The steps that came in. -/
def Steps (w : World) (v : Value) (l : List Stp) : Prop := ∃ a c, v = .slice a l.length c ∧ l.length ≤ maxLen ∧ ∀ i (hi : i < l.length), ∃ b o, a = some ⟨b, o, none⟩ ∧ StpAt w b (o + i * 4) l[i]
theorem StpAt.new {w w' : World} {b o : Nat} {x : Stp} (h : StpAt w b o x) (hg : w.grownBy w' none) : StpAt w' b o x :=
  ⟨hg.cell h.kd (by simp), hg.cell h.n (by simp), hg.cell h.c (by simp), hg.cell h.kv (by simp), h.hn, h.bls.keepNew hg, h.hk⟩

theorem u8_of {n : Int} (h : (Lit.int .u8 n).wf = true) : ∃ c : UInt8, n = (c.toNat : Int) := by
  simp [Lit.wf, IntKind.min, IntKind.max, IntKind.signed, IntKind.bits] at h
  refine ⟨UInt8.ofNat n.toNat, ?_⟩
  rw [UInt8.toNat_ofNat', Nat.mod_eq_of_lt (by omega)]
  omega
section
variable {H : Type} {enc : TypeId × Value → H} {P : Program}
theorem bls_cell {t e : TypeId} (ht : P.underlying t = some (.slice e)) (he : P.underlying e = some .bool) (hc : P.cellsOf e = 1) {W : World} {v : Value} {n : Nat} {x : DataW H × List MemPlace} (hf : DataW.trod enc P W 0 (fun _ => true) true n t [v] = some x) : ∃ ks, Bls W v ks ∧ (ks = [] ∨ ∃ m ∈ x.1.weights P t, ks.length * P.bytesOf e ≤ m) := by
  rcases Deep.open_bools ht he hc hf with ⟨hcs, _⟩ | ⟨a, len, cap, B, hcs, _, hl, hm, hx, hcell⟩
  · simp at hcs
    subst hcs
    exact ⟨[], .inl ⟨rfl, rfl⟩, .inl rfl⟩
  · simp at hcs
    subst hcs
    have hlen : ((List.range len).map B).length = len := by simp
    refine ⟨(List.range len).map B, ?_, .inr ?_⟩
    rotate_left 1
    · rw [hx]
      refine ⟨(len + (cap - len)) * P.bytesOf e, by simp [Deep.boolRow, DataW.weights, ht], ?_⟩
      rw [hlen]
      exact Nat.mul_le_mul_right _ (by omega)
    by_cases h0 : cap = 0
    · obtain rfl : cap = 0 := h0
      obtain rfl : len = 0 := by omega
      exact .inr (.inr ⟨a, rfl, by simp⟩)
    · obtain ⟨ab, ao, spot⟩ := a
      have hspot : spot = none := by simpa [Addr.add] using World.cell?_spot (hcell 0 (by omega))
      subst hspot
      refine .inr (.inl ⟨ab, ao, cap, by rw [hlen], by rw [hlen]; exact hl, hm, fun i hi => ?_⟩)
      rw [hlen, Nat.mul_one] at hi
      have hcj := hcell i (by omega)
      rw [add_off] at hcj
      rw [hcj]
      simp [List.getD, hi]
theorem weightsAll_mem' {e : TypeId} : ∀ {l : List (DataW H)} {d : DataW H} {n : Nat}, d ∈ l → n ∈ d.weights P e → n ∈ DataW.weightsAll P e l
  | x :: l, d, n, hd, hn => by
    simp only [DataW.weightsAll, List.mem_append]
    rcases List.mem_cons.1 hd with rfl | hd
    · exact .inl hn
    · exact .inr (weightsAll_mem' hd hn)
/-- A slice of steps that came in. -/
theorem open_steps {t e g : TypeId} {f0 f1 f2 f3 : Field} (ht : P.underlying t = some (.slice e)) (he : P.underlying e = some (.struct #[f0, f1, f2, f3])) (ce : P.cellsOf e = 4)
    (o0 : f0.offset = 0) (o1 : f1.offset = 1) (o2 : f2.offset = 2) (o3 : f3.offset = 3) (c0 : P.cellsOf f0.type = 1) (c1 : P.cellsOf f1.type = 1) (c2 : P.cellsOf f2.type = 1) (c3 : P.cellsOf f3.type = 1)
    (h0 : P.underlying f0.type = some (.int .u8)) (h1 : P.underlying f1.type = some (.int .i64)) (h2 : P.underlying f2.type = some (.int .u8)) (h3 : P.underlying f3.type = some (.slice g)) (hg : P.underlying g = some .bool) (cg : P.cellsOf g = 1) (bg : P.bytesOf g = 1)
    {ts : List TypeId} {ds : List (DataW H)} (hsz : (DataW.weightsEach P ts ds).all (· ≤ reachBytes) = true) {J : Nat} (hts : ts[J]? = some t) {W : World} {base : Nat} {v : Value} {d : DataW H} {p : List MemPlace} (hval : Value.okWide P W .any base t v) (hds : ds[J]? = some d) (h : DataW.Trod enc P W 0 (fun _ => true) true t v d p) : ∃ l : List Stp, Steps W v l := by
  obtain ⟨a1, len, cap, rfl⟩ := WideShapes.okWide_slice ht hval
  obtain ⟨fuel, hf⟩ := h
  rcases Deep.open_slice ht hf with ⟨hcs, _⟩ | ⟨a, len', cap', m, n, D, Pl, hcs, _, hl, hm, hmm, hx, hall⟩
  · simp [Value.cells] at hcs
    obtain ⟨rfl, rfl, rfl⟩ := hcs
    exact ⟨[], none, 0, rfl, by simp, fun i hi => by simp at hi⟩
  · simp [Value.cells] at hcs
    obtain ⟨rfl, rfl, rfl⟩ := hcs
    simp only [if_true] at hmm
    subst hmm
    have each : ∀ i, i < len → ∃ x : Stp, ∃ b o, a = ⟨b, o, none⟩ ∧ StpAt W b (o + i * 4) x := fun i hi => by
      obtain ⟨cs', hc, ht'⟩ := hall i (by omega)
      rw [ce] at hc
      obtain ⟨_, hlen, hat⟩ := World.cells?_some hc
      obtain ⟨xs, n', _, hxs, _, hxl, hfl⟩ := DataW.trod_struct he ht'
      match cs', hlen with
      | [v0, v1, v2, v3], _ =>
        have e0 := hfl 0 f0 rfl
        have e1 := hfl 1 f1 rfl
        have e2 := hfl 2 f2 rfl
        have e3 := hfl 3 f3 rfl
        have hxl : xs.length = 4 := hxl
        rw [o0, c0, List.getElem?_eq_getElem (by omega)] at e0
        rw [o1, c1, List.getElem?_eq_getElem (by omega)] at e1
        rw [o2, c2, List.getElem?_eq_getElem (by omega)] at e2
        rw [o3, c3, List.getElem?_eq_getElem (by omega)] at e3
        obtain ⟨z0, q0, _, w0⟩ := DataW.trod_int h0 e0
        obtain ⟨z1, q1, _, w1⟩ := DataW.trod_int h1 e1
        obtain ⟨z2, q2, _, w2⟩ := DataW.trod_int h2 e2
        have e3' : DataW.trod enc P W 0 (fun _ => true) true n' f3.type [v3] = some xs[3] := e3
        obtain ⟨ks, hb, hkw⟩ := bls_cell h3 hg cg e3'
        have hkl : ks.length ≤ 140737488355328 := by
          rcases hkw with rfl | ⟨mm, hm1, hm2⟩
          · simp
          · have q1 : mm ∈ (D i).weights P e := by
              rw [show D i = .agg (xs.map (·.1)) from congrArg Prod.fst hxs]
              simp only [DataW.weights, he]
              exact DataW.weights_mem_each (j := 3) (t := f3.type) (d := xs[3].1) rfl (by simp [List.getElem?_map, List.getElem?_eq_getElem (show 3 < xs.length by omega)]) _ hm1
            have q2 : mm ∈ d.weights P t := by
              rw [show d = _ from congrArg Prod.fst hx]
              simp only [DataW.weights, ht, List.mem_cons, List.mem_append]
              exact .inr (.inl (weightsAll_mem' (List.mem_map.2 ⟨i, List.mem_range.2 hi, rfl⟩) q1))
            have q3 := List.all_eq_true.1 hsz _ (DataW.weights_mem_each hts hds _ q2)
            have q4 := reachBytes_lt
            simp only [decide_eq_true_eq] at q3
            rw [bg] at hm2
            omega
        simp at q0 q1 q2
        subst q0 q1 q2
        obtain ⟨k0, rfl⟩ := u8_of w0
        obtain ⟨k2, rfl⟩ := u8_of w2
        have a0 := hat 0 (by omega)
        have a1 := hat 1 (by omega)
        have a2 := hat 2 (by omega)
        have a3 := hat 3 (by omega)
        obtain ⟨ab, ao, spot⟩ := a
        have hspot : spot = none := by
          obtain ⟨cs0, hc0, _⟩ := hall 0 (by omega)
          rw [ce] at hc0
          obtain ⟨_, hlen0, hat0⟩ := World.cells?_some hc0
          have h9 := hat0 0 (by omega)
          rw [List.getElem?_eq_getElem (by omega)] at h9
          simpa [Addr.add] using World.cell?_spot h9
        subst hspot
        rw [add_off, add_off] at a0 a1 a2 a3
        refine ⟨⟨k0, z1, k2, v3, ks⟩, ab, ao, rfl, a0, a1, a2, a3, ?_, hb, hkl⟩
        simp [Lit.wf, IntKind.min, IntKind.max, IntKind.signed, IntKind.bits] at w1
        dsimp only
        omega
    obtain ⟨Z, hZ⟩ := Deep.choose_lt each
    refine ⟨(List.range len).map Z, some a, m, by simp, by simp; omega, fun i hi => ?_⟩
    have hi' : i < len := by simpa using hi
    obtain ⟨b, o, e1, e2⟩ := hZ i hi'
    refine ⟨b, o, by rw [e1], ?_⟩
    simpa using e2
end

/-- Many steps, or few. -/
def Large (w : World) (l : List Stp) (e : Ending) (w' : World) : Prop := ∃ b, e = .returned (.bool b) ∧ w = w' ∧ (b = false → l.length ≤ 100 ∧ ∀ x ∈ l, x.ks.length ≤ 3000)
set_option maxRecDepth 20000 in
set_option maxHeartbeats 1000000 in
theorem large_any {w : World} {v : Value} {l : List Stp} (h : Steps w v l) : Calls Try.prog 24 #[v] w (Large w l) := by
  obtain ⟨a, c, rfl, hl, hat⟩ := h
  obtain ⟨len, hlen⟩ : ∃ n, l.length = n := ⟨_, rfl⟩
  have HLEN := Lib.hid hlen
  have HAT := Lib.hid hat
  rw [hlen] at hl ⊢
  unfold maxLen at hl
  have z1 : (len : Int) ≤ 9223372036854775807 := by omega
  clear hat hlen
  go_enter Try.func24, Try.ntmps24
  go_wp2_with fail
  go_loopw [3, 4] (fun x y wr => ∃ i N : Nat, i ≤ len ∧ y = .int .i64 i ∧ x = .int .i64 N ∧ N ≤ 1000000000000000000 ∧ wr = w ∧ ∀ x ∈ l.take i, x.ks.length ≤ N) (fun _ y _ => len - (intOf y).toNat)
  case atStart => exact ⟨0, 0, Nat.zero_le _, rfl, rfl, by omega, rfl, by simp⟩
  case round =>
    obtain ⟨i, N, hi, rfl, rfl, hN, rfl, hks⟩ := hrel
    have HKS := Lib.hid hks
    clear hks
    by_cases hlt : i < len
    · by_cases hN3 : N < 3000
      · have z2 : (N : Int) < 3000 := by omega
        obtain ⟨b, o, rfl, hs⟩ := HAT.out i (by have := HLEN.out; omega)
        have htk : l.take (i + 1) = l.take i ++ [l[i]'(by have := HLEN.out; omega)] := by rw [List.take_succ_eq_append_getElem (by have := HLEN.out; omega)]
        have HTK := Lib.hid htk
        clear htk
        generalize l[i]'(by have := HLEN.out; omega) = x at *
        obtain ⟨a2, c2, hkv, hkl⟩ := hs.bls.shape
        have k3 := hs.kv
        rw [hkv] at k3
        obtain ⟨m, hm⟩ : ∃ m, x.ks.length = m := ⟨_, rfl⟩
        have HMM := Lib.hid hm
        rw [hm] at k3 hkl
        have hkl : m ≤ 140737488355328 := by rw [← hm]; exact hs.hk
        have z3 : (N : Int) + 1 ≤ 9223372036854775807 := by omega
        have z4 : (N : Int) + 1 + (m : Int) ≤ 9223372036854775807 := by omega
        clear hs hkv hm
        go_wp2_with fail
        go_roundw
        case rel => exact ⟨i + 1, N + 1 + m, by omega, by go_num, by go_num, by omega, trivial, fun y hy => by
            rw [HTK.out] at hy
            rcases List.mem_append.1 hy with hy | hy
            · have := HKS.out y hy; omega
            · simp at hy; subst hy; have := HMM.out; omega⟩
        case measure => (simp [intOf]; try omega)
      · have z2 : ¬ (N : Int) < 3000 := by omega
        have z3 : 3000 ≤ (N : Int) := by omega
        go_wp2_with fail
        go_ret
        exact ⟨true, rfl, rfl, (fun h => by cases h)⟩
    · obtain rfl : i = len := by omega
      by_cases hN3 : N < 3000
      · have z2 : (N : Int) < 3000 := by omega
        have z3 : ¬ 3000 ≤ (N : Int) := by omega
        by_cases h100 : 100 < i
        · have z4 : 100 < (i : Int) := by omega
          go_wp2_with fail
          go_ret
          exact ⟨true, rfl, rfl, (fun h => by cases h)⟩
        · have z4 : ¬ 100 < (i : Int) := by omega
          go_wp2_with fail
          go_ret
          refine ⟨false, rfl, rfl, fun _ => ⟨by have := HLEN.out; omega, fun x hx => ?_⟩⟩
          have := HKS.out x (by rw [List.take_of_length_le (by have := HLEN.out; omega)]; exact hx)
          omega
      · have z2 : ¬ (N : Int) < 3000 := by omega
        have z3 : 3000 ≤ (N : Int) := by omega
        go_wp2_with fail
        go_ret
        exact ⟨true, rfl, rfl, (fun h => by cases h)⟩
end Go.Proofs.Ytnnhnkpbiilooaa
