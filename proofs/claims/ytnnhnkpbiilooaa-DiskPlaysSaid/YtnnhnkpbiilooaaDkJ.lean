/- disk: New, Copy, Boot, Cut. -/
import Derived.Test.YtnnhnkpbiilooaaDkI
namespace Go.Proofs.Ytnnhnkpbiilooaa
open Go.RowKit Go.Maps

theorem undD : Try.prog.underlying 63 = some (.struct (Try.prog.fieldsOf 63)) := by kernel_rfl
def zD : Array Value := #[.int .i64 0, .map none, .slice none 0 0, .map none, .int .i64 0, .slice none 0 0, .bool false]
theorem infD : (Try.prog.info? 63).map (fun i => (i.zero, i.size, i.bytes)) = some (some (.agg zD), 7, 88) := by kernel_rfl
theorem zeroD (w : World) : (zeroValue 63).run Try.prog w = .ok (.agg zD) w := by
  obtain ⟨i, hi, hz, _, _⟩ := info_parts infD
  simp [zeroValue, typeInfo, hi, hz]
theorem rowD {cs : Array Value} (h : cs.size = 7) : (Try.prog.info? 63).map (·.size) = some cs.size := by
  obtain ⟨i, hi, _, hs, _⟩ := info_parts infD
  rw [hi, h]; simp [hs]

section
variable {ops : Array Oper} {rest : List Oper} {o : Oper} {a : Act} {Q : Exit → Act → World → Prop} {w : World} {K : Act → World → Prop}
theorem wpAllocD (hg : o.guard = none) (hop : o.op = Op.alloc 63) (hK : ∀ g w', NewC w w' g 63 zD → wpList Try.prog ops Q rest (a.put o.dst (.pointer (some ⟨g, 0, none⟩))) w') : wpList Try.prog ops Q (o :: rest) a w := by
  have h := hK _ _ (NewC.mk' w 63 zD)
  refine wpList_plain hg fun K' hK' => ?_
  unfold Oper.wp
  simp [execOp, hop, Instr.alloc, zeroD, newVar, newRow, Value.cells, Result.andThen]
  exact hK' _ _ h
theorem wpStoreD (hg : o.guard = none) (x y : Operand) (hop : o.op = Op.store 63 x y) (g : Nat) (cs old : Array Value) (hx : a.eval x = .pointer (some ⟨g, 0, none⟩)) (hy : a.eval y = .agg cs) (hb : Blk w g 63 old) (h1 : cs.size = 7) (h2 : old.size = 7) (h3 : cs.all (·.oneCell') = true)
    (hK : ∀ w', Blk w' g 63 cs → w.grownBy w' (some g) → wpList Try.prog ops Q rest (a.put o.dst undef) w') : wpList Try.prog ops Q (o :: rest) a w := by
  have hB : Blk (w.setRow g cs) g 63 cs := setRow_heap w g _ _ _ _ hb
  have hG : w.grownBy (w.setRow g cs) (some g) := ⟨rfl, rfl, rfl, by simp, fun k _ hk => setRow_other w g k _ (fun e => hk (by rw [e]))⟩
  exact wpList_plain hg fun _ h => wp_store_row _ x y hop g cs hx hy _ old hb (rowD h1) (by rw [h1, h2]) h3 (h _ _ (hK _ hB hG))
theorem wpLoadD (hg : o.guard = none) (x : Operand) (hop : o.op = Op.load 63 x) (g : Nat) (cs : Array Value) (hx : a.eval x = .pointer (some ⟨g, 0, none⟩)) (hb : Blk w g 63 cs) (h1 : cs.size = 7)
    (hK : wpList Try.prog ops Q rest (a.put o.dst (.agg cs)) w) : wpList Try.prog ops Q (o :: rest) a w :=
  wpList_plain hg fun _ h => wp_load_row _ x hop g hx _ _ (0, 0) _ hb undD rfl (rowD h1) (h _ _ hK)
end

theorem all7 {x0 x1 x2 x3 x4 x5 x6 : Value} (h0 : x0.oneCell' = true) (h1 : x1.oneCell' = true) (h2 : x2.oneCell' = true) (h3 : x3.oneCell' = true) (h4 : x4.oneCell' = true) (h5 : x5.oneCell' = true) (h6 : x6.oneCell' = true) : (#[x0, x1, x2, x3, x4, x5, x6] : Array Value).all (·.oneCell') = true := by simp [h0, h1, h2, h3, h4, h5, h6]
/-- A disk of its own. -/
def Makes (w : World) (base : Nat) (kv0 : Value) (s : DS) (f : Value → Ending) (e : Ending) (w' : World) : Prop :=
  ∃ F, e = f (dptr F.p) ∧ Dk w' base F s ∧ w.grownBy w' none ∧ F.kv = kv0 ∧ ∀ k, F.has k → w.heap.size ≤ k

set_option maxRecDepth 20000 in
set_option maxHeartbeats 1000000 in
theorem Copy_any {w : World} {base : Nat} {F : Foot} {s : DS} (h : Dk w base F s) (hb : base ≤ w.heap.size) (hm : s.m ≤ 1000000000) : Calls Try.prog 23 #[dptr F.p] w (Makes w base F.kv s Ending.returned) := by
  obtain ⟨kv, hkf, h1, h2⟩ := h.kvx
  have HKF := Lib.hid hkf
  rw [hkf]
  clear hkf
  obtain ⟨c, h3, h4⟩ := h.c
  have H := Lib.hid h
  have HKV := Lib.hid h2
  obtain ⟨ak, nk, ck, hkv⟩ : ∃ a n c, kv = .slice a n c := by
    obtain ⟨a, c, e, _⟩ := h2.bls.shape
    exact ⟨_, _, _, e⟩
  obtain ⟨aw, cw, hwv, _, _⟩ := h.wr.form
  have HKW := Lib.hid hkv
  have HB : Hid (Blk w F.p 63 #[.int .i64 (s.n : Int), .map (some F.m1), F.wv, .map (some F.m2), .int .i64 (s.lf : Int), kv, .bool s.dd]) := Lib.hid h1
  have HWV := Lib.hid hwv
  rw [hwv] at HB
  rw [hkv] at HB HKV
  have H3 := Lib.hid h3
  have H4 := Lib.hid h4
  have HM := Lib.hid hm
  have HBS := Lib.hid hb
  obtain ⟨n, hn⟩ : ∃ n, s.wt.length = n := ⟨_, rfl⟩
  rw [hn] at HB
  have HN := Lib.hid hn
  clear h h1 h2 h3 h4 hb hm hkv hwv hn
  unfold dptr
  go_enter Try.func23, Try.ntmps23
  go_upto_region 4 with (first
    | (refine wpLoadD rfl _ rfl F.p _ rfl HB.out rfl ?_)
    | (refine wpAllocD rfl rfl ?_; intro g w1 hn1; have N1 := Lib.hid hn1; clear hn1)
    | (refine wpStoreD rfl (.tmp 3) (.tmp 8) rfl g _ _ rfl rfl N1.out.blk rfl rfl (all7 rfl rfl rfl rfl rfl rfl rfl) ?_; intro w2 hb2 hg2; have B2 := Lib.hid hb2; have G2 := Lib.hid (grown_new N1.out.grown hg2 N1.out.ge); clear hb2 hg2))
  have HGE := Lib.hid N1.out.ge
  have BP2 := Lib.hid (HB.out.new G2.out)
  have c1 := BP2.out.cell (i := 1) (x := .map (some F.m1)) rfl
  clear N1
  go_wp2_with fail
  refine (cloneMp_any (H3.out.new G2.out)).mono ?_; rintro e w3 ⟨m1, rfl, hm1, hg3, hge3⟩
  have B3 := Lib.hid (B2.out.new hg3)
  have k1 := B3.out.cell (i := 1) (x := .map (some F.m1)) rfl
  have f1 := B3.out.frozen 1
  have HM1 := Lib.hid hm1
  have HGE3 : Hid (w2.heap.size ≤ m1) := Lib.hid hge3
  have G3 := Lib.hid (grown_two G2.out hg3)
  clear hm1 hg3 hge3 c1
  go_upto_region 5 with fail
  have b4 := B3.out.set 1 (.map (some m1))
  have g4 := B3.out.setG 1 (.map (some m1))
  generalize World.setCell _ _ _ = w4 at *
  have B4 : Hid (Blk w4 g 63 #[.int .i64 (s.n : Int), .map (some m1), .slice aw n cw, .map (some F.m2), .int .i64 (s.lf : Int), .slice ak nk ck, .bool s.dd]) := Lib.hid b4
  have hM4 : Mp w4 m1 c s.fl := (Kept.of (S := (· = g)) g4 (fun k e => .inl (by cases e; rfl))).mp HM1.out (by have := B2.out.lt; have := HGE3.out; omega)
  have M4 := Lib.hid hM4
  have G4 := Lib.hid (grown_new G3.out g4 HGE.out)
  clear b4 g4 k1 f1 hM4 B3
  have BP4 := Lib.hid (HB.out.new G4.out)
  have c2 := BP4.out.cell (i := 2) (x := .slice aw n cw) rfl
  have hwr := RowOf.new H.out.wr G4.out
  rw [HWV.out, HN.out] at hwr
  have HWR := Lib.hid hwr
  clear hwr
  go_wp2_with fail
  have hlen : s.wt.length ≤ 1000000000 := by have := H4.out; have := HM.out; omega
  refine (cloneWr_any HWR.out hlen).mono ?_; rintro e w5 ⟨v5, rfl, hw5, hg5, a5, n5, c5, rfl⟩
  have B5 := Lib.hid (B4.out.new hg5)
  have k2 := B5.out.cell (i := 2) (x := .slice aw n cw) rfl
  have f2 := B5.out.frozen 2
  have W5 := Lib.hid hw5
  have M5 := Lib.hid (M4.out.new hg5)
  have G5 := Lib.hid (grown_two G4.out hg5)
  clear hw5 hg5 c2 hlen
  go_upto_region 6 with fail
  have b6 := B5.out.set 2 (.slice a5 n5 c5)
  have g6 := B5.out.setG 2 (.slice a5 n5 c5)
  generalize World.setCell _ _ _ = w6 at *
  have B6 : Hid (Blk w6 g 63 #[.int .i64 (s.n : Int), .map (some m1), .slice a5 n5 c5, .map (some F.m2), .int .i64 (s.lf : Int), .slice ak nk ck, .bool s.dd]) := Lib.hid b6
  have K6 : Kept (· = g) w5 w6 := Kept.of g6 (fun k e => .inl (by cases e; rfl))
  have M6 : Hid (Mp w6 m1 c s.fl) := Lib.hid (K6.mp M5.out (by have := B2.out.lt; have := HGE3.out; omega))
  have hgw : ∀ k, (Value.slice a5 n5 c5).ownBlock = some k → w4.heap.size ≤ k := fun k hk => (RowOf.lt W5.out hk).1
  have HGW := Lib.hid hgw
  have W6 : Hid (Wr w6 w4.heap.size (.slice a5 n5 c5) s.wt) := Lib.hid (K6.row W5.out (fun k hk e => by have := hgw k hk; have := B4.out.lt; omega))
  have G6 := Lib.hid (grown_new G5.out g6 HGE.out)
  clear b6 g6 k2 f2 K6 hgw B5
  have BP6 := Lib.hid (HB.out.new G6.out)
  have c3 := BP6.out.cell (i := 3) (x := .map (some F.m2)) rfl
  go_wp2_with fail
  refine (cloneMp_any (H.out.nw.new G6.out)).mono ?_; rintro e w7 ⟨m2, rfl, hm2, hg7, hge7⟩
  have B7 := Lib.hid (B6.out.new hg7)
  have k3 := B7.out.cell (i := 3) (x := .map (some F.m2)) rfl
  have f3 := B7.out.frozen 3
  have HM2 := Lib.hid hm2
  have HGE7 : Hid (w6.heap.size ≤ m2) := Lib.hid hge7
  have G7 := Lib.hid (grown_two G6.out hg7)
  have M7 := Lib.hid (M6.out.new hg7)
  have W7 := Lib.hid (RowOf.new W6.out hg7)
  clear hm2 hg7 hge7 c3
  go_upto_region 7 with fail
  have b8 := B7.out.set 3 (.map (some m2))
  have g8 := B7.out.setG 3 (.map (some m2))
  generalize World.setCell _ _ _ = w8 at *
  have B8 : Hid (Blk w8 g 63 #[.int .i64 (s.n : Int), .map (some m1), .slice a5 n5 c5, .map (some m2), .int .i64 (s.lf : Int), .slice ak nk ck, .bool s.dd]) := Lib.hid b8
  have K8 : Kept (· = g) w7 w8 := Kept.of g8 (fun k e => .inl (by cases e; rfl))
  have hlg := B2.out.lt
  have hlg6 := B6.out.lt
  have s7 := M6.out.lt
  have M8 : Hid (Mp w8 m1 c s.fl) := Lib.hid (K8.mp M7.out (by have := HGE3.out; omega))
  have N8 : Hid (Mp w8 m2 s.wt.length (nwOf s.wt)) := Lib.hid (K8.mp HM2.out (by have := HGE7.out; omega))
  have W8 : Hid (Wr w8 w4.heap.size (.slice a5 n5 c5) s.wt) := Lib.hid (K8.row W7.out (fun k hk e => by have := HGW.out k hk; have := B4.out.lt; omega))
  have G8 := Lib.hid (grown_new G7.out g8 HGE.out)
  have NE : Hid (m1 ≠ m2) := Lib.hid (by have := HGE7.out; omega)
  have L1 : Hid (w.heap.size ≤ m1) := Lib.hid (by have := HGE3.out; have := G2.out.size; omega)
  have L2 : Hid (w.heap.size ≤ m2) := Lib.hid (by have := HGE7.out; have := G6.out.size; omega)
  have LW : Hid (∀ k, (Value.slice a5 n5 c5).ownBlock = some k → w.heap.size ≤ k) := Lib.hid (fun k hk => Nat.le_trans G4.out.size (HGW.out k hk))
  clear b8 g8 k3 f3 K8 hlg hlg6 s7
  go_wp2_with fail
  go_ret
  refine ⟨⟨g, m1, m2, .slice a5 n5 c5, .slice ak nk ck⟩, rfl, ⟨⟨B8.out, ?_⟩, ⟨c, M8.out, H4.out⟩, N8.out, RowOf.based W8.out (fun k hk => Nat.le_trans HBS.out (LW.out k hk)), NE.out, Nat.le_trans HBS.out HGE.out, Nat.le_trans HBS.out L1.out, Nat.le_trans HBS.out L2.out, H.out.hn, H.out.hl, H.out.wi⟩, G8.out, HKW.out.symm, ?_⟩
  · exact (Kept.new (S := fun _ => False) G8.out).own HKV.out (fun _ _ h => h)
  · rintro k (rfl | rfl | rfl | hk)
    · exact HGE.out
    · exact L1.out
    · exact L2.out
    · exact LW.out k hk
end Go.Proofs.Ytnnhnkpbiilooaa
