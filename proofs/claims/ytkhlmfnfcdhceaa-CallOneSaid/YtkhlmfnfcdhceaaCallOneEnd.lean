/- CallOne: for every input the call returns true, and every argument reads as it did. No condition: the statement itself. -/
import Derived.Test.YtkhlmfnfcdhceaaCallY
import Derived.Test.YtkhlmfnfcdhceaaLaw
namespace Go.Proofs.Ytkhlmfnfcdhceaa.callOne
open Go.ChangeShapes Go.WideShapes Go.ChangeAt Go.RowKit

theorem own : ownKnob Try.prog.godebug = none := by kernel_rfl
theorem laidOut : laidOutB Try.prog = true := by kernel_rfl
theorem cellsU8 : Try.prog.cellsOf 5 = 1 := by kernel_rfl
theorem readable : ∀ t ∈ Try.f8.params.toList, Try.prog.readableRec t = true ∧ t < Try.prog.types.size := by
  rw [Try.params8]
  intro t ht
  simp at ht
  rcases ht with rfl | rfl <;> exact ⟨by kernel_rfl, of_decide_eq_true (by kernel_rfl)⟩

set_option maxRecDepth 100000 in
theorem lifted (os : Os) (started : os.Started) (H : Type) (enc : TypeId × Value → H) :
    ReturnsInHanded {} Try.checked os 8 .any (Rows.callOneSpec.pre6 enc Try.prog Try.f8 Rows.callOneRow.domain false) (Rows.callOneSpec.post enc Try.prog Try.f8 false true false false) := by
  refine returnsInHanded_of_change_sized (C := Try.checked) own started (by kernel_rfl) Try.func8
    (ChangeSpec.witness6 (enc := enc) (C := Try.checked) false ⟨#[], #[.agg #[.int .i64 0, .int .i64 0, .int .i64 0, .string ⟨#[]⟩], .agg #[.int .i64 0, .int .i64 0, .int .i64 0, .string ⟨#[]⟩], .agg #[.int .i64 0, .int .i64 0, .string ⟨#[]⟩], .agg #[.int .i64 0, .int .i64 0, .string ⟨#[]⟩]], []⟩ 8 (by kernel_rfl) (by kernel_rfl) (by kernel_rfl) (by kernel_rfl)) ?_
  intro W base args ds gs before hval0 hW hcnd hsz0 _
  have hsz : (DataW.weightsEach Try.prog (Try.f8.params.toList ++ Rows.callOneSpec.plain.varTypes Try.prog) (ds ++ gs)).all (· ≤ reachBytes) = true := hsz0
  have hval : ∀ (j : Nat) t v, Try.f8.params[j]? = some t → args[j]? = some v → Value.okWide Try.prog W .any base t v := hval0
  have hW' := hW
  obtain ⟨p, q, hA0, hV, hps, hfz, hnd⟩ := hW
  have hA : DataW.TrodAll enc Try.prog W 0 (fun _ => true) true Try.f8.params.toList args.toList ds p := hA0
  rw [Try.params8] at hA hval hsz
  obtain ⟨v0, vs0, d0, ds0, p0, q0, hargs0, hds0, hps0, h0, r0⟩ := trodAll_cons hA
  obtain ⟨v1, vs1, d1, ds1, p1, q1, hargs1, hds1, hps1, h1, r1⟩ := trodAll_cons r0
  obtain ⟨v2, vs2, d2, ds2, p2, q2, hargs2, hds2, hps2, h2, r2⟩ := trodAll_cons r1
  obtain ⟨v3, vs3, d3, ds3, p3, q3, hargs3, hds3, hps3, h3, r3⟩ := trodAll_cons r2
  obtain ⟨hargsN, hdsN, hpsN⟩ := trodAll_nil r3
  subst hdsN hds3 hds2 hds1 hds0
  obtain rfl : args = #[v0, v1, v2, v3] := by cases args; simp_all
  obtain ⟨rfl, rfl⟩ := trodVars_none hV
  clear hA hA0 hV hval0 hfz hnd hps hcnd hargs0 hps0 hargs1 hps1 hargs2 hps2 hargs3 hps3 hargsN hpsN r0 r1 r2 r3
  have k0 := HdInZ.of (open_head (Try.underlying42) (by kernel_rfl) rfl rfl rfl rfl (by kernel_rfl) (by kernel_rfl) (by kernel_rfl) (by kernel_rfl) (Try.underlying3) (Try.underlying3) (Try.underlying3) (Try.underlying9) (hval 0 _ v0 rfl rfl) h0) (fun _ _ _ _ e => head_reach hsz (j := 0) (t := 42) rfl (by rw [← e]; rfl) (Try.underlying42))
  have k1 := HdInZ.of (open_head (Try.underlying42) (by kernel_rfl) rfl rfl rfl rfl (by kernel_rfl) (by kernel_rfl) (by kernel_rfl) (by kernel_rfl) (Try.underlying3) (Try.underlying3) (Try.underlying3) (Try.underlying9) (hval 1 _ v1 rfl rfl) h1) (fun _ _ _ _ e => head_reach hsz (j := 1) (t := 42) rfl (by rw [← e]; rfl) (Try.underlying42))
  have k2 := AnInZ.of (open_answer (Try.underlying43) (by kernel_rfl) rfl rfl rfl (by kernel_rfl) (by kernel_rfl) (by kernel_rfl) (Try.underlying3) (Try.underlying26) (Try.underlying9) (hval 2 _ v2 rfl rfl) h2) (fun _ _ _ e => answer_reach hsz (j := 2) (t := 43) rfl (by rw [← e]; rfl) (Try.underlying43))
  have k3 := AnInZ.of (open_answer (Try.underlying43) (by kernel_rfl) rfl rfl rfl (by kernel_rfl) (by kernel_rfl) (by kernel_rfl) (Try.underlying3) (Try.underlying26) (Try.underlying9) (hval 3 _ v3 rfl rfl) h3) (fun _ _ _ e => answer_reach hsz (j := 3) (t := 43) rfl (by rw [← e]; rfl) (Try.underlying43))
  refine (cone_walk v0 v1 v2 v3 W k0 k1 k2 k3).mono fun e W2 ⟨he, hg⟩ => ?_
  subst he
  exact ⟨_, rfl, law_end laidOut readable rfl hW' rfl rfl Try.underlying4 hg⟩

theorem over : Rows.callOneRow.holds Try.pinned (OpenSpec.ofChange Rows.callOneSpec) :=
  OpenClaim.holds_of_wide 8 Try.f8 rfl rfl rfl rfl rfl rfl rfl ⟨rfl, rfl, rfl, rfl, rfl⟩ rfl rfl rfl rfl rfl (by kernel_rfl) Try.func8 (by kernel_rfl)
    (of_decide_eq_true (by kernel_rfl)) (by unfold Func.isWrapper; first | (rw [if_pos (by decide +kernel)]; kernel_rfl) | (rw [if_neg (by decide +kernel)]; exact ⟨rfl, rfl⟩))
    (fun os started H enc _ => lifted os started H enc)

theorem proved : Rows.CallOneSaid := over
end Go.Proofs.Ytkhlmfnfcdhceaa.callOne
