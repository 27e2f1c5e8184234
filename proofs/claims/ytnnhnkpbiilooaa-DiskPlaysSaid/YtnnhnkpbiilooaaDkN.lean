/- disk: Write. -/
import Derived.Test.YtnnhnkpbiilooaaDkM
import Derived.Deep.RegionHeld3
namespace Go.Proofs.Ytnnhnkpbiilooaa
open Go.RowKit Go.Maps

theorem Blk.range {w : World} {g : Nat} {t : TypeId} {b : Bk} (h : Blk w g t b.v) : w.rangeAt g 0 (b.l.map u8v) := fun j v hv => by
  rw [Nat.zero_add]
  exact h.cell (by unfold Bk.v; simpa using hv)
section
variable {ops : Array Oper} {o : Oper} {a : Act} {Q : Exit → Act → World → Prop} {w : World} {K : Act → World → Prop} {S : World → Prop} {E : Prop}
theorem yieldsW (hw : Region.wanted o (yielded ops a.tmps) = true) (x y : Operand) (hop : o.op = Op.build 67 #[(0, x), (1, y)]) (k : Nat) (b : Bk) (hx : a.eval x = .int .i64 (k : Int)) (hy : a.eval y = .agg b.v) : YieldsIf Try.prog ops S o (.agg (wC (k, b)).toArray) a :=
  .inl ⟨hw, fun w _ => by
    have hr := run_builtW k b w
    unfold execOp
    simp [hop, hx, hy, hr, Result.andThen]⟩
theorem stepSliceW (hg : o.guard = none) (x : Operand) (hop : o.op = Op.buildSlice 61 1 #[(0, x)]) (q : Nat × Bk) (hx : a.eval x = .agg (wC q).toArray)
    (h : ∀ g w', NewC w w' g 67 (wC q).toArray → K (a.put o.dst (.slice (some ⟨g, 0, none⟩) 1 1)) w') : if Region.wanted o (yielded ops a.tmps) = true then Oper.wp Try.prog o a w K Q else E := by
  rw [if_pos (by simp [Region.wanted, hg])]
  have hr := run_sliceW q w
  have := h _ _ (NewC.mk' w 67 (wC q).toArray)
  unfold Oper.wp
  simp [execOp, hop, hx, hr, Result.andThen]
  exact this
theorem stepAppW (hg : o.guard = none) (s x : Operand) (hop : o.op = .call { callee := .builtin .append, args := #[s, x], argTypes := #[61, 61] }) (base : Nat) (v : Value) (l : List (Nat × Bk)) (q : Nat × Bk) (g : Nat)
    (hs : a.eval s = v) (hx : a.eval x = .slice (some ⟨g, 0, none⟩) 1 1) (hv : Wr w base v l) (hb : Blk w g 67 (wC q).toArray) (hl : l.length ≤ 10000000000) (hbase : base ≤ w.heap.size)
    (h : ∀ a' n' c' w', Wr w' base (.slice a' n' c') (l ++ [q]) → w.grownBy w' v.ownBlock → ((Value.slice a' n' c').ownBlock = v.ownBlock ∨ (Value.slice a' n' c').ownBlock = some w.heap.size) → K (a.put o.dst (.slice a' n' c')) w') : if Region.wanted o (yielded ops a.tmps) = true then Oper.wp Try.prog o a w K Q else E := by
  rw [if_pos (by simp [Region.wanted, hg])]
  obtain ⟨v', w', h1, h2, h3, h4, a', n', c', rfl⟩ := hv.append q hb hl hbase o.type
  exact Lib.wp_append_run w s x _ _ hop _ _ hs hx _ w' h1 (h a' n' c' w' h2 h3 h4)
end

set_option maxRecDepth 20000 in
theorem Write_nil (k : Int) (b : Bk) (w : World) : Calls Try.prog 14 #[.pointer none, .int .i64 k, .agg b.v] w fun e w' => e = .returned (.int .i64 2) ∧ w.grownBy w' none := by
  go_enter Try.func14, Try.ntmps14
  go_wp2_with (first
    | (refine wpBoxB rfl _ rfl b rfl ?_; intro g w1 hn1; have N1 := Lib.hid hn1; clear hn1)
    | (go_at_call 33; refine (has_nil _ _).mono ?_; rintro e w' ⟨rfl, rfl⟩))
  go_ret
  exact ⟨rfl, N1.out.grown⟩

/-- What a write leaves: memory may be made, beside. -/
theorem Does.after {w w1 : World} {base : Nat} {F : Foot} {s : DS} {z : Int} {e : Ending} {w' : World} (hg : w.grownBy w1 none) (h : Does w1 base F s z e w') : Does w base F s z e w' := by
  obtain ⟨F', h1, h2, h3, h4, h5⟩ := h
  exact ⟨F', h1, h2, h3, (Kept.new hg).trans h4, fun k => ⟨fun hk => ((h5 k).1 hk).imp id (fun h => Nat.le_trans hg.size h), fun hk => ((h5 k).2 hk).imp id (fun h => Nat.le_trans hg.size h)⟩⟩
theorem DS.write_off {s : DS} {k : Int} {b : Bk} (h : s.has k ≠ 0) : s.write k b = (s, s.has k) := by unfold DS.write; rw [if_neg h]
theorem DS.write_on {s : DS} {j : Nat} {b : Bk} (h : s.has (j : Int) = 0) : s.write (j : Int) b = (s.add j b).count := by unfold DS.write; rw [if_pos h, Int.toNat_natCast]
theorem DS.has_0 {s : DS} {k : Int} (h : s.has k = 0) : s.dd = false ∧ 0 ≤ k ∧ k < (s.n : Int) := by
  rcases hd : s.dd with _ | _
  · by_cases hh : k < 0 ∨ (s.n : Int) ≤ k
    · rw [DS.has_off hd hh] at h; cases h
    · exact ⟨rfl, by omega, by omega⟩
  · rw [DS.has_dead hd] at h; cases h

set_option maxRecDepth 20000 in
theorem Write_off {w : World} {base : Nat} {F : Foot} {s : DS} (h : Dk w base F s) (k : Int) (hk : -9223372036854775808 ≤ k ∧ k ≤ 9223372036854775807) (b : Bk) (h0 : s.has k ≠ 0) : Calls Try.prog 14 #[dptr F.p, .int .i64 k, .agg b.v] w (Does w base F (s.write k b).1 (s.write k b).2) := by
  rw [DS.write_off h0]
  have H := Lib.hid h
  have HK := Lib.hid hk
  generalize hz : s.has k = z at *
  have HH := Lib.hid hz
  clear h hk hz
  unfold dptr
  go_enter Try.func14, Try.ntmps14
  go_upto_region 1 with (refine wpBoxB rfl _ rfl b rfl ?_; intro g w1 hn1; have N1 := Lib.hid hn1; clear hn1)
  go_wp2_with fail
  refine (has_any (H.out.new N1.out.grown) _ HK.out).mono ?_; rintro e w2 ⟨rfl, rfl⟩
  rw [HH.out]
  go_wp2_with fail
  go_ret
  exact ((H.out.new N1.out.grown).does z).after N1.out.grown

theorem write_dk {wd wa wb wc we : World} {base : Nat} {F : Foot} {s : DS} {j : Nat} {b : Bk} {wv' kv : Value} (H1 : Dk wd base F s) (ga : wd.grownBy wa none) (gb : wa.grownBy wb F.wv.ownBlock) (hob : wv'.ownBlock = F.wv.ownBlock ∨ wv'.ownBlock = some wa.heap.size)
    (hwb : Wr wb base wv' (s.wt ++ [(j, b)])) (gc : wb.grownBy wc (some F.p)) (hbc : Blk wc F.p 63 #[.int .i64 (s.n : Int), .map (some F.m1), wv', .map (some F.m2), .int .i64 (s.lf : Int), kv, .bool s.dd]) (hkv : BlsT wd kv s.kp)
    (ge : wc.drew.grownBy we (some F.m2)) (hme : Mp we F.m2 (s.wt.length + 1) (upd (nwOf s.wt) j b)) (hj : j < s.n) :
    Dk we base ⟨F.p, F.m1, F.m2, wv', kv⟩ (s.add j b) ∧ Kept F.has wd we ∧ ∀ k, Foot.has ⟨F.p, F.m1, F.m2, wv', kv⟩ k → F.has k ∨ wd.heap.size ≤ k := by
  obtain ⟨k1, _⟩ := H1.kv
  obtain ⟨c, k3, k4⟩ := H1.c
  have K1 : Kept F.has wd wa := Kept.new ga
  have K2 : Kept F.has wa wb := Kept.of gb (fun k e => .inl (.inr (.inr (.inr e))))
  have K3 : Kept F.has wb wc := Kept.of gc (fun k e => .inl (.inl (by cases e; rfl)))
  have K4 : Kept F.has wc wc.drew := ⟨rfl, rfl, rfl, Nat.le_refl _, fun _ _ _ => rfl⟩
  have K5 : Kept F.has wc.drew we := Kept.of ge (fun k e => .inl (.inr (.inr (.inl (by cases e; rfl)))))
  have K := (((K1.trans K2).trans K3).trans K4).trans K5
  have npm1 : F.m1 ≠ F.p := k3.ne k1
  have npm2 : F.m2 ≠ F.p := H1.nw.ne k1
  have nwp : ∀ k, F.wv.ownBlock = some k → k ≠ F.p ∧ k ≠ F.m1 ∧ k ≠ F.m2 := fun k e => by
    obtain ⟨cs, hw⟩ := RowOf.kind H1.wr e
    exact ⟨fun e => by subst e; exact Blk.ne (show Blk wd F.p 67 cs from hw) k1 (by decide) rfl, fun e => k3.ne hw e.symm, fun e => H1.nw.ne hw e.symm⟩
  have nkv : ∀ k, kv.ownBlock = some k → ¬ F.has k := fun k e hs => hkv.off e (H1.kind hs)
  have lt1 := k3.lt
  have lt2 := H1.nw.lt
  have ltp := k1.lt
  have wvn : ∀ k, wv'.ownBlock = some k → k ≠ F.p ∧ k ≠ F.m1 ∧ k ≠ F.m2 := fun k e => by
    rcases hob with h | h
    · exact nwp k (h ▸ e)
    · rw [h] at e; cases e
      have := ga.size
      exact ⟨by omega, by omega, by omega⟩
  have hbe : Blk we F.p 63 #[.int .i64 (s.n : Int), .map (some F.m1), wv', .map (some F.m2), .int .i64 (s.lf : Int), kv, .bool s.dd] :=
    Blk.kept (w := wc.drew) hbc ge (fun e => npm2 (Option.some.inj e).symm)
  have K2' : Kept (fun k => F.wv.ownBlock = some k) wa wb := Kept.of gb (fun k e => .inl e)
  have K3' : Kept (· = F.p) wb wc := Kept.of gc (fun k e => .inl (by cases e; rfl))
  have K5' : Kept (· = F.m2) wc.drew we := Kept.of ge (fun k e => .inl (by cases e; rfl))
  have hm1 : Mp we F.m1 c s.fl := by
    have h1 := k3.new ga
    have h2 := K2'.mp h1 (fun e => (nwp _ e).2.1 rfl)
    have h3 := K3'.mp h2 npm1
    exact K5'.mp (h3.new (w' := wc.drew) ⟨rfl, rfl, rfl, Nat.le_refl _, fun _ _ _ => rfl⟩) H1.ne
  have hwe : Wr we base wv' (s.wt ++ [(j, b)]) := by
    have h3 := K3'.row hwb (fun k e => (wvn k e).1)
    have h4 : RowOf wc.drew base _ _ wv' _ := RowOf.new h3 ⟨rfl, rfl, rfl, Nat.le_refl _, fun _ _ _ => rfl⟩
    exact K5'.row h4 (fun k e => (wvn k e).2.2)
  refine ⟨⟨⟨hbe, K.own hkv nkv⟩, ⟨c, hm1, ?_⟩, ?_, hwe, H1.ne, H1.bp, H1.b1, H1.b2, H1.hn, H1.hl, ?_⟩, K, ?_⟩
  · show c + (s.wt ++ [(j, b)]).length ≤ s.m + 1
    rw [List.length_append]
    simp
    omega
  · show Mp we F.m2 (s.wt ++ [(j, b)]).length (nwOf (s.wt ++ [(j, b)]))
    rw [nwOf_snoc, List.length_append]
    exact hme
  · intro x hx
    rcases List.mem_append.1 hx with hx | hx
    · exact H1.wi x hx
    · simp at hx; subst hx; exact hj
  · rintro k (rfl | rfl | rfl | hk)
    · exact .inl (.inl rfl)
    · exact .inl (.inr (.inl rfl))
    · exact .inl (.inr (.inr (.inl rfl)))
    · rcases hob with h | h
      · exact .inl (.inr (.inr (.inr (h ▸ hk))))
      · right
        have hk : wv'.ownBlock = some k := hk
        rw [h] at hk; cases hk
        exact ga.size

set_option maxRecDepth 100000 in
set_option maxHeartbeats 4000000 in
theorem Write_on {w : World} {base : Nat} {F : Foot} {s : DS} (h : Dk w base F s) (hb0 : base ≤ w.heap.size) (hm : s.m ≤ 100000000) (j : Nat) (b : Bk) (h0 : s.has (j : Int) = 0) : Calls Try.prog 14 #[dptr F.p, .int .i64 (j : Int), .agg b.v] w (Does w base F (s.write j b).1 (s.write j b).2) := by
  rw [DS.write_on h0]
  obtain ⟨hd, _, hj⟩ := DS.has_0 h0
  have H := Lib.hid h
  have hn := h.hn
  have HJ : Hid ((j : Int) ≤ 9223372036854775807) := Lib.hid (by omega)
  have HH := Lib.hid h0
  have HM := Lib.hid hm
  have HBA := Lib.hid hb0
  have HD := Lib.hid hd
  have HJN := Lib.hid hj
  obtain ⟨aw, cw, hwv, _, _⟩ := h.wr.form
  have HWV := Lib.hid hwv
  clear h h0 hm hb0 hd hj hn hwv
  unfold dptr
  go_enter Try.func14, Try.ntmps14
  go_upto_region 1 with (refine wpBoxB rfl _ rfl b rfl ?_; intro bx w1 hn1; have N1 := Lib.hid hn1; clear hn1)
  go_wp2_with fail
  refine (has_any (H.out.new N1.out.grown) _ ⟨by omega, HJ.out⟩).mono ?_; rintro e w2 ⟨rfl, rfl⟩
  rw [HH.out]
  go_upto_region 4 with fail
  have dr : w1.grownBy w1.drew none := ⟨rfl, rfl, rfl, Nat.le_refl _, fun _ _ _ => rfl⟩
  have H1 := Lib.hid (H.out.new (grown_two N1.out.grown dr))
  have BX : Hid (Blk w1.drew bx 29 b.v) := Lib.hid (N1.out.blk.new dr)
  have GD := Lib.hid (grown_two N1.out.grown dr)
  have LB : Hid (w.heap.size ≤ bx) := Lib.hid N1.out.ge
  obtain ⟨kv, hkf, k1, k2⟩ := H1.out.kvx
  have HKF := Lib.hid hkf
  clear hkf
  rw [HWV.out] at k1
  have HB := Lib.hid k1
  have HKV := Lib.hid k2
  have c2 := k1.cell (i := 2) (x := .slice aw s.wt.length cw) rfl
  have hwr := H1.out.wr
  rw [HWV.out] at hwr
  have HWR := Lib.hid hwr
  clear k1 k2 dr hwr
  refine wp_region_noPanic ?_
  refine wp_region_held_drew (S := fun w' => Blk w' bx 29 b.v) (by kernel_rfl) (BX.out) (fun hHeld => ?_)
  generalize w1.drew = wd at *
  refine wpAnyH_take (i := 0) (v := ?_) (by simp only [List.getElem?_toArray, List.getElem?_cons_zero]; rfl) (by kernel_rfl) (by kernel_rfl) (by kernel_rfl) (fun _ _ _ h => h) (Or.inl ⟨by rfl, ?_⟩) (by assumption) ?_
  rotate_left 1
  · intro w hSw; (try dsimp only at hSw); go_simp; all_goals (with_reducible rfl)
  try simp only [Act.put, List.setIfInBounds_toArray, List.set_cons_zero, List.set_cons_succ]
  refine wpAnyH_take (i := 1) (v := ?_) (by simp only [List.getElem?_toArray, List.getElem?_cons_succ, List.getElem?_cons_zero]; rfl) (by kernel_rfl) (by kernel_rfl) (by kernel_rfl) (fun _ _ _ h => h) (Or.inl ⟨by rfl, ?_⟩) (by assumption) ?_
  rotate_left 1
  · intro w hSw; (try dsimp only at hSw); go_simp; all_goals (with_reducible rfl)
  try simp only [Act.put, List.setIfInBounds_toArray, List.set_cons_zero, List.set_cons_succ]
  refine wpAnyH_take (i := 2) (v := ?_) (by simp only [List.getElem?_toArray, List.getElem?_cons_succ, List.getElem?_cons_zero]; rfl) (by kernel_rfl) (by kernel_rfl) (by kernel_rfl) (fun _ _ _ h => h) (Or.inl ⟨by rfl, ?_⟩) (by assumption) ?_
  rotate_left 1
  · intro w hSw; (try dsimp only at hSw); go_simp; all_goals (with_reducible rfl)
  try simp only [Act.put, List.setIfInBounds_toArray, List.set_cons_zero, List.set_cons_succ]
  refine wpAnyH_take (i := 3) (v := ?_) (by simp only [List.getElem?_toArray, List.getElem?_cons_succ, List.getElem?_cons_zero]; rfl) (by kernel_rfl) (by kernel_rfl) (by kernel_rfl) (fun _ _ _ h => h) (Or.inl ⟨by rfl, ?_⟩) (by assumption) ?_
  rotate_left 1
  · intro w hSw; (try dsimp only at hSw); go_simp; all_goals (with_reducible rfl)
  try simp only [Act.put, List.setIfInBounds_toArray, List.set_cons_zero, List.set_cons_succ]
  refine wpAnyH_take (i := 5) (v := ?_) (by simp only [List.getElem?_toArray, List.getElem?_cons_succ, List.getElem?_cons_zero]; rfl) (by kernel_rfl) (by kernel_rfl) (by kernel_rfl) (fun _ _ _ h => h) (Or.inl ⟨by rfl, ?_⟩) (by assumption) ?_
  rotate_left 1
  · intro w hSw; (try dsimp only at hSw); go_simp; all_goals (with_reducible rfl)
  try simp only [Act.put, List.setIfInBounds_toArray, List.set_cons_zero, List.set_cons_succ]
  refine wpAnyH_take (i := 6) (v := .agg b.v) (by simp only [List.getElem?_toArray, List.getElem?_cons_succ, List.getElem?_cons_zero]; rfl) (by kernel_rfl) (by kernel_rfl) (by kernel_rfl) (fun _ _ _ h => h) (yieldsIf_load_mid (by rfl) _ _ (by rfl) bx 0 (by rfl) (b.l.map u8v) _ (fun w hw => Blk.range hw) undB rfl (by rw [List.length_map, b.h]; exact infB)) (by assumption) ?_
  try simp only [Act.put, List.setIfInBounds_toArray, List.set_cons_zero, List.set_cons_succ]
  refine wpAnyH_take (i := 7) (v := .agg (wC (j, b)).toArray) (by simp only [List.getElem?_toArray, List.getElem?_cons_succ, List.getElem?_cons_zero]; rfl) (by kernel_rfl) (by kernel_rfl) (by kernel_rfl) (fun _ _ _ h => h) (yieldsW (by rfl) _ _ (by rfl) j b (by rfl) (by rfl)) (by assumption) ?_
  try simp only [Act.put, List.setIfInBounds_toArray, List.set_cons_zero, List.set_cons_succ]
  refine wpAnyH_ready (rs := [4, 8]) (by kernel_rfl) (by simp) ?_
  refine AllReadyH.cons (by simp only [List.getElem?_toArray, List.getElem?_cons_succ, List.getElem?_cons_zero]; rfl) (fun K hK => ?_) (AllReadyH.cons (by simp only [List.getElem?_toArray, List.getElem?_cons_succ, List.getElem?_cons_zero]; rfl) (fun K hK => ?_) AllReadyH.nil)
  · go_simp
    refine hK.out _ _ hHeld (fun hHeld => ?_)
    clear hK K
    try simp only [Act.put, List.setIfInBounds_toArray, List.set_cons_zero, List.set_cons_succ]
    refine wpAnyH_ready (rs := [8]) (by kernel_rfl) (by simp) ?_
    refine AllReadyH.cons (by simp only [List.getElem?_toArray, List.getElem?_cons_succ, List.getElem?_cons_zero]; rfl) (fun K hK => ?_) AllReadyH.nil
    refine stepSliceW (by rfl) _ (by rfl) (j, b) (by rfl) ?_
    intro g2 wa hna
    have NA := Lib.hid hna
    have hba : Blk wa bx 29 b.v := BX.out.new hna.grown
    refine hK.out _ _ hba (fun hHeld => ?_)
    clear hK K hna
    try simp only [Act.put, List.setIfInBounds_toArray, List.set_cons_zero, List.set_cons_succ]
    refine wpAnyH_ready (rs := [9]) (by kernel_rfl) (by simp) ?_
    refine AllReadyH.cons (by simp only [List.getElem?_toArray, List.getElem?_cons_succ, List.getElem?_cons_zero]; rfl) (fun K hK => ?_) AllReadyH.nil
    have hw0 : Wr wa base (.slice aw s.wt.length cw) s.wt := RowOf.new HWR.out NA.out.grown
    refine stepAppW (by rfl) _ _ (by rfl) base _ s.wt (j, b) g2 (by rfl) (by rfl) hw0 NA.out.blk (by obtain ⟨c, _, hc⟩ := H.out.c; have := HM.out; omega) (by have := HBA.out; have := GD.out.size; have := NA.out.grown.size; omega) ?_
    intro a3 n3 c3 wb hwb hgb hob
    have HWB := Lib.hid hwb
    have HGB := Lib.hid hgb
    have HOB := Lib.hid hob
    have hnb : some bx ≠ (Value.slice aw s.wt.length cw).ownBlock := fun e => by
      obtain ⟨cs, hcs⟩ := RowOf.kind hw0 e.symm
      exact Blk.ne (show Blk wa bx 67 cs from hcs) hba (by decide) rfl
    have hpb : some F.p ≠ (Value.slice aw s.wt.length cw).ownBlock := fun e => by
      obtain ⟨cs, hcs⟩ := RowOf.kind hw0 e.symm
      exact Blk.ne (show Blk wa F.p 67 cs from hcs) (HB.out.new NA.out.grown) (by decide) rfl
    have hbb := hba.kept hgb hnb
    have hb2 := (HB.out.new NA.out.grown).kept hgb hpb
    have HB2 := Lib.hid hb2
    refine hK.out _ _ hbb (fun hHeld => ?_)
    clear hK K hwb hgb hob hw0 hba hnb hpb hbb
    try simp only [Act.put, List.setIfInBounds_toArray, List.set_cons_zero, List.set_cons_succ]
    have k2 := hb2.cell (i := 2) (x := .slice aw s.wt.length cw) rfl
    have f2 := hb2.frozen 2
    clear hb2 c2
    refine wpAnyH_take (i := 10) (v := ?_) (by simp only [List.getElem?_toArray, List.getElem?_cons_succ, List.getElem?_cons_zero]; rfl) (by kernel_rfl) (by kernel_rfl) (by kernel_rfl) (fun _ _ _ h => h) (Or.inl ⟨by rfl, ?_⟩) (by assumption) ?_
    rotate_left 1
    · intro w hSw; (try dsimp only at hSw); go_simp; all_goals (with_reducible rfl)
    try simp only [Act.put, List.setIfInBounds_toArray, List.set_cons_zero, List.set_cons_succ]
    refine wpAnyH_take (i := 11) (v := ?_) (by simp only [List.getElem?_toArray, List.getElem?_cons_succ, List.getElem?_cons_zero]; rfl) (by kernel_rfl) (by kernel_rfl) (by kernel_rfl) (fun _ _ _ h => h) (Or.inl ⟨by rfl, ?_⟩) (by assumption) ?_
    rotate_left 1
    · intro w hSw; (try dsimp only at hSw); go_simp; all_goals (with_reducible rfl)
    try simp only [Act.put, List.setIfInBounds_toArray, List.set_cons_zero, List.set_cons_succ]
    refine wpAnyH_ready (rs := [12]) (by kernel_rfl) (by simp) ?_
    refine AllReadyH.cons (by simp only [List.getElem?_toArray, List.getElem?_cons_succ, List.getElem?_cons_zero]; rfl) (fun K hK => ?_) AllReadyH.nil
    have hb3 := HB2.out.set 2 (.slice a3 n3 c3)
    have hg3 := HB2.out.setG 2 (.slice a3 n3 c3)
    have hne : bx ≠ F.p := fun e => by
      subst e
      exact Blk.ne hHeld HB2.out (by decide) rfl
    have hbx3 := Blk.kept hHeld hg3 (by simpa using hne)
    go_simp
    refine hK.out _ _ hbx3 (fun hHeld => ?_)
    clear hK K k2 f2
    try simp only [Act.put, List.setIfInBounds_toArray, List.set_cons_zero, List.set_cons_succ]
    refine wpAnyH_done (by kernel_rfl) ?_ _
    refine NoPanic.normal ?_
    generalize World.setCell _ _ _ = wc at *
    have HB3 := Lib.hid hb3
    have HG3 := Lib.hid hg3
    have BX3 := Lib.hid hHeld
    clear hb3 hg3 hHeld hbx3 hne
    have c3 := HB3.out.cell (i := 3) (x := .map (some F.m2)) rfl
    have hm2 := H1.out.nw.new NA.out.grown
    have hm2 : Mp wb F.m2 _ _ := (Kept.of (S := fun k => (Value.slice aw s.wt.length cw).ownBlock = some k) HGB.out (fun k e => .inl e)).mp hm2 (fun e => by
      obtain ⟨cs, hcs⟩ := RowOf.kind HWR.out e
      exact H1.out.nw.ne hcs rfl)
    have hm2 : Mp wc F.m2 _ _ := (Kept.of (S := (· = F.p)) HG3.out (fun k e => .inl (by cases e; rfl))).mp hm2 (H1.out.nw.ne HB.out)
    have hm2 : Mp wc.drew F.m2 _ _ := hm2.new ⟨rfl, rfl, rfl, Nat.le_refl _, fun _ _ _ => rfl⟩
    have HM2 := Lib.hid hm2
    have HCAP : Hid (s.wt.length < maxLen) := Lib.hid (by obtain ⟨c, _, hc⟩ := H.out.c; have := HM.out; unfold maxLen; omega)
    clear hm2
    go_wp2_with fail
    go_still_tail 6, (by kernel_rfl)
    refine still_loadB rfl _ rfl bx 0 b rfl (fun j v hv => Blk.range BX3.out j v hv) ?_
    (try simp only [Act.put, List.setIfInBounds_toArray, List.set_cons_succ, List.set_cons_zero])
    refine wpStill_nil ?_
    change wpList _ _ _ _ _ wc.drew
    clear c3
    generalize hwx : wc.drew = wx at *
    have HWX := Lib.hid hwx
    clear hwx
    go_wp2_with (refine wpMpPut rfl _ _ _ rfl F.m2 _ _ j b rfl rfl rfl HJ.out HCAP.out HM2.out ?_; intro we hm4 hg4; have M4 := Lib.hid hm4; have G4 := Lib.hid hg4; clear hm4 hg4)
    have hfin := write_dk (wv' := .slice a3 n3 c3) (kv := kv) H1.out NA.out.grown (by rw [HWV.out]; exact HGB.out) (by rw [HWV.out]; exact HOB.out) HWB.out HG3.out HB3.out HKV.out (by rw [HWX.out]; exact G4.out) M4.out (by have := HJN.out; omega)
    have HFIN := Lib.hid hfin
    clear hfin
    refine (count_any HFIN.out.1 (by have := HM.out; show s.m + 1 ≤ 1000000000; omega) HD.out).mono ?_; rintro e w9 ⟨F9, rfl, hp9, h9, h10, h11⟩
    have H9 := Lib.hid (And.intro hp9 (And.intro h9 (And.intro h10 h11)))
    clear hp9 h9 h10 h11
    go_wp2_with fail
    go_ret
    obtain ⟨hp9, h9, h10, h11⟩ := H9.out
    obtain ⟨f1, f2, f3⟩ := HFIN.out
    exact ⟨F9, rfl, hp9, h9, ((Kept.new GD.out).trans f2).then h10 (fun k hk => (f3 k hk).imp id (fun h => Nat.le_trans GD.out.size h)), fun k => ⟨fun hk => by
      rcases (h11 k).1 hk with h | h
      · exact (f3 k h).imp id (fun h => Nat.le_trans GD.out.size h)
      · exact .inr (Nat.le_trans GD.out.size (Nat.le_trans f2.size h)), fun hk => by
      rcases (h11 k).2 hk with h | h
      · exact .inl (by rw [HKF.out]; exact h)
      · exact .inr (Nat.le_trans GD.out.size (Nat.le_trans f2.size h))⟩⟩
  · refine stepSliceW (by rfl) _ (by rfl) (j, b) (by rfl) ?_
    intro g2 wa hna
    have NA := Lib.hid hna
    have hba : Blk wa bx 29 b.v := BX.out.new hna.grown
    refine hK.out _ _ hba (fun hHeld => ?_)
    clear hK K hna
    try simp only [Act.put, List.setIfInBounds_toArray, List.set_cons_zero, List.set_cons_succ]
    have c2 := (HB.out.new NA.out.grown).cell (i := 2) (x := .slice aw s.wt.length cw) rfl
    refine wpAnyH_ready (rs := [4]) (by kernel_rfl) (by simp) ?_
    refine AllReadyH.cons (by simp only [List.getElem?_toArray, List.getElem?_cons_succ, List.getElem?_cons_zero]; rfl) (fun K hK => ?_) AllReadyH.nil
    go_simp
    refine hK.out _ _ hHeld (fun hHeld => ?_)
    clear hK K
    try simp only [Act.put, List.setIfInBounds_toArray, List.set_cons_zero, List.set_cons_succ]
    refine wpAnyH_ready (rs := [9]) (by kernel_rfl) (by simp) ?_
    refine AllReadyH.cons (by simp only [List.getElem?_toArray, List.getElem?_cons_succ, List.getElem?_cons_zero]; rfl) (fun K hK => ?_) AllReadyH.nil
    have hw0 : Wr wa base (.slice aw s.wt.length cw) s.wt := RowOf.new HWR.out NA.out.grown
    refine stepAppW (by rfl) _ _ (by rfl) base _ s.wt (j, b) g2 (by rfl) (by rfl) hw0 NA.out.blk (by obtain ⟨c, _, hc⟩ := H.out.c; have := HM.out; omega) (by have := HBA.out; have := GD.out.size; have := NA.out.grown.size; omega) ?_
    intro a3 n3 c3 wb hwb hgb hob
    have HWB := Lib.hid hwb
    have HGB := Lib.hid hgb
    have HOB := Lib.hid hob
    have hnb : some bx ≠ (Value.slice aw s.wt.length cw).ownBlock := fun e => by
      obtain ⟨cs, hcs⟩ := RowOf.kind hw0 e.symm
      exact Blk.ne (show Blk wa bx 67 cs from hcs) hba (by decide) rfl
    have hpb : some F.p ≠ (Value.slice aw s.wt.length cw).ownBlock := fun e => by
      obtain ⟨cs, hcs⟩ := RowOf.kind hw0 e.symm
      exact Blk.ne (show Blk wa F.p 67 cs from hcs) (HB.out.new NA.out.grown) (by decide) rfl
    have hbb := hba.kept hgb hnb
    have hb2 := (HB.out.new NA.out.grown).kept hgb hpb
    have HB2 := Lib.hid hb2
    refine hK.out _ _ hbb (fun hHeld => ?_)
    clear hK K hwb hgb hob hw0 hba hnb hpb hbb
    try simp only [Act.put, List.setIfInBounds_toArray, List.set_cons_zero, List.set_cons_succ]
    have k2 := hb2.cell (i := 2) (x := .slice aw s.wt.length cw) rfl
    have f2 := hb2.frozen 2
    clear hb2 c2
    refine wpAnyH_take (i := 10) (v := ?_) (by simp only [List.getElem?_toArray, List.getElem?_cons_succ, List.getElem?_cons_zero]; rfl) (by kernel_rfl) (by kernel_rfl) (by kernel_rfl) (fun _ _ _ h => h) (Or.inl ⟨by rfl, ?_⟩) (by assumption) ?_
    rotate_left 1
    · intro w hSw; (try dsimp only at hSw); go_simp; all_goals (with_reducible rfl)
    try simp only [Act.put, List.setIfInBounds_toArray, List.set_cons_zero, List.set_cons_succ]
    refine wpAnyH_take (i := 11) (v := ?_) (by simp only [List.getElem?_toArray, List.getElem?_cons_succ, List.getElem?_cons_zero]; rfl) (by kernel_rfl) (by kernel_rfl) (by kernel_rfl) (fun _ _ _ h => h) (Or.inl ⟨by rfl, ?_⟩) (by assumption) ?_
    rotate_left 1
    · intro w hSw; (try dsimp only at hSw); go_simp; all_goals (with_reducible rfl)
    try simp only [Act.put, List.setIfInBounds_toArray, List.set_cons_zero, List.set_cons_succ]
    refine wpAnyH_ready (rs := [12]) (by kernel_rfl) (by simp) ?_
    refine AllReadyH.cons (by simp only [List.getElem?_toArray, List.getElem?_cons_succ, List.getElem?_cons_zero]; rfl) (fun K hK => ?_) AllReadyH.nil
    have hb3 := HB2.out.set 2 (.slice a3 n3 c3)
    have hg3 := HB2.out.setG 2 (.slice a3 n3 c3)
    have hne : bx ≠ F.p := fun e => by
      subst e
      exact Blk.ne hHeld HB2.out (by decide) rfl
    have hbx3 := Blk.kept hHeld hg3 (by simpa using hne)
    go_simp
    refine hK.out _ _ hbx3 (fun hHeld => ?_)
    clear hK K k2 f2
    try simp only [Act.put, List.setIfInBounds_toArray, List.set_cons_zero, List.set_cons_succ]
    refine wpAnyH_done (by kernel_rfl) ?_ _
    refine NoPanic.normal ?_
    generalize World.setCell _ _ _ = wc at *
    have HB3 := Lib.hid hb3
    have HG3 := Lib.hid hg3
    have BX3 := Lib.hid hHeld
    clear hb3 hg3 hHeld hbx3 hne
    have c3 := HB3.out.cell (i := 3) (x := .map (some F.m2)) rfl
    have hm2 := H1.out.nw.new NA.out.grown
    have hm2 : Mp wb F.m2 _ _ := (Kept.of (S := fun k => (Value.slice aw s.wt.length cw).ownBlock = some k) HGB.out (fun k e => .inl e)).mp hm2 (fun e => by
      obtain ⟨cs, hcs⟩ := RowOf.kind HWR.out e
      exact H1.out.nw.ne hcs rfl)
    have hm2 : Mp wc F.m2 _ _ := (Kept.of (S := (· = F.p)) HG3.out (fun k e => .inl (by cases e; rfl))).mp hm2 (H1.out.nw.ne HB.out)
    have hm2 : Mp wc.drew F.m2 _ _ := hm2.new ⟨rfl, rfl, rfl, Nat.le_refl _, fun _ _ _ => rfl⟩
    have HM2 := Lib.hid hm2
    have HCAP : Hid (s.wt.length < maxLen) := Lib.hid (by obtain ⟨c, _, hc⟩ := H.out.c; have := HM.out; unfold maxLen; omega)
    clear hm2
    go_wp2_with fail
    go_still_tail 6, (by kernel_rfl)
    refine still_loadB rfl _ rfl bx 0 b rfl (fun j v hv => Blk.range BX3.out j v hv) ?_
    (try simp only [Act.put, List.setIfInBounds_toArray, List.set_cons_succ, List.set_cons_zero])
    refine wpStill_nil ?_
    change wpList _ _ _ _ _ wc.drew
    clear c3
    generalize hwx : wc.drew = wx at *
    have HWX := Lib.hid hwx
    clear hwx
    go_wp2_with (refine wpMpPut rfl _ _ _ rfl F.m2 _ _ j b rfl rfl rfl HJ.out HCAP.out HM2.out ?_; intro we hm4 hg4; have M4 := Lib.hid hm4; have G4 := Lib.hid hg4; clear hm4 hg4)
    have hfin := write_dk (wv' := .slice a3 n3 c3) (kv := kv) H1.out NA.out.grown (by rw [HWV.out]; exact HGB.out) (by rw [HWV.out]; exact HOB.out) HWB.out HG3.out HB3.out HKV.out (by rw [HWX.out]; exact G4.out) M4.out (by have := HJN.out; omega)
    have HFIN := Lib.hid hfin
    clear hfin
    refine (count_any HFIN.out.1 (by have := HM.out; show s.m + 1 ≤ 1000000000; omega) HD.out).mono ?_; rintro e w9 ⟨F9, rfl, hp9, h9, h10, h11⟩
    have H9 := Lib.hid (And.intro hp9 (And.intro h9 (And.intro h10 h11)))
    clear hp9 h9 h10 h11
    go_wp2_with fail
    go_ret
    obtain ⟨hp9, h9, h10, h11⟩ := H9.out
    obtain ⟨f1, f2, f3⟩ := HFIN.out
    exact ⟨F9, rfl, hp9, h9, ((Kept.new GD.out).trans f2).then h10 (fun k hk => (f3 k hk).imp id (fun h => Nat.le_trans GD.out.size h)), fun k => ⟨fun hk => by
      rcases (h11 k).1 hk with h | h
      · exact (f3 k h).imp id (fun h => Nat.le_trans GD.out.size h)
      · exact .inr (Nat.le_trans GD.out.size (Nat.le_trans f2.size h)), fun hk => by
      rcases (h11 k).2 hk with h | h
      · exact .inl (by rw [HKF.out]; exact h)
      · exact .inr (Nat.le_trans GD.out.size (Nat.le_trans f2.size h))⟩⟩
end Go.Proofs.Ytnnhnkpbiilooaa
