/- The example that each statement of sums ends with. -/
import Derived.Test.YtdicoojodefacaaDigD
import Derived.Lib.SlBytesConst
namespace Go.Proofs.Ytdicoojodefacaa
open Go.RowKit

/-- The answer is yes, and of what was there nothing has turned. -/
def OK (w : World) (e : Ending) (w' : World) : Prop := e = .returned (.bool true) ∧ w.grownBy w' none

theorem Hsh.new {w w' : World} {r u : Nat} (h : Hsh w r u) (hg : w.grownBy w' none) : Hsh w' r u := Blk.new h hg
theorem Hsh.kept {w w' : World} {r q u : Nat} (h : Hsh w r u) (hg : w.grownBy w' (some q)) (hne : r ≠ q) : Hsh w' r u := Blk.kept h hg (by simpa using hne)
theorem Hsh.lt {w : World} {r u : Nat} (h : Hsh w r u) : r < w.heap.size := Blk.lt h

theorem fnv_a : fnv [97] = 12638187200555641996 := by decide +kernel
theorem sumOn_a : sumOn fnvM fnvP fnv0 [97] = 12638187200555641996 := fnv_a
theorem parse_a : dParse [97, 102, 54, 51, 100, 99, 52, 99, 56, 54, 48, 49, 101, 99, 56, 99] = (12638187200555641996, 0) := by decide +kernel
theorem text_a : dText 12638187200555641996 = [97, 102, 54, 51, 100, 99, 52, 99, 56, 54, 48, 49, 101, 99, 56, 99] := by decide +kernel
theorem of_a : dOf [[97]] = 16573665792374991721 := by decide +kernel
theorem of_b : dOf [[98]] = 16573662493840107088 := by decide +kernel

theorem one_strs (w : World) (x : List UInt8) : Strs (w.alloc (.cells #[.string ⟨x.toArray⟩] 9)) (.slice (some ⟨w.heap.size, 0, none⟩) 1 1) [x] := by
  refine .inr (.inl ⟨w.heap.size, 0, 1, rfl, Nat.le_refl _, show 1 ≤ maxLen by decide, fun i hi => ?_⟩)
  obtain rfl : i = 0 := by simpa using hi
  exact (Blk.made w 9 #[.string ⟨x.toArray⟩]).cell (i := 0) rfl
theorem one_bts (w : World) (x : UInt8) : Bts (w.alloc (.cells #[u8v x] 5)) (.slice (some ⟨w.heap.size, 0, none⟩) 1 1) [x] := blk_bts (bs := [x]) (Blk.made w _ _) (show 1 ≤ maxLen by decide)

theorem mark_bts (w : World) (x : UInt8) : Bts (w.alloc (.cells #[.int .u8 (x.toNat : Int)] 5 (1, 2))) (.slice (some ⟨w.heap.size, 0, none⟩) 1 1) [x] := by
  refine .inr (.inl ⟨w.heap.size, 0, 1, rfl, Nat.le_refl _, show 1 ≤ maxLen by decide, fun i hi => ?_⟩)
  obtain rfl : i = 0 := by simpa using hi
  rw [World.cell?_alloc_mark]
  rfl
theorem kc (w : World) (C : Array Value) (n c : Nat) : (convert 35 35 (.slice (some ⟨w.heap.size, 0, none⟩) n c)).run Try.prog (w.alloc (.cells C 5)) = .ok (.slice (some ⟨w.heap.size, 0, none⟩) n c) (w.alloc (.cells C 5 (C.size, C.size + 1))) := Lib.run_convert_bytes_const (P := Try.prog) w 35 5 C n c und22 und5

theorem sumA (w : World) : Calls Try.prog 14 #[.string ⟨#[97]⟩] w fun e w' => e = .returned (.int .u64 12638187200555641996) ∧ w.grownBy w' none := by
  have h := sum_any [97] w (by decide)
  rw [fnv_a] at h
  exact h
theorem sum0 (w : World) : Calls Try.prog 14 #[.string ⟨#[]⟩] w fun e w' => e = .returned (.int .u64 14695981039346656037) ∧ w.grownBy w' none := sum_any [] w (by decide)
theorem parseA (w : World) : Calls Try.prog 12 #[.string ⟨#[97, 102, 54, 51, 100, 99, 52, 99, 56, 54, 48, 49, 101, 99, 56, 99]⟩] w fun e w' => e = .returned (.tuple #[.int .u64 12638187200555641996, .int .i64 0]) ∧ w.grownBy w' none := by
  have h := parse_any [97, 102, 54, 51, 100, 99, 52, 99, 56, 54, 48, 49, 101, 99, 56, 99] w (show 16 ≤ maxLen by decide)
  rw [parse_a] at h
  exact h
theorem textA (w : World) : Calls Try.prog 18 #[.int .u64 12638187200555641996] w fun e w' => e = .returned (.string ⟨#[97, 102, 54, 51, 100, 99, 52, 99, 56, 54, 48, 49, 101, 99, 56, 99]⟩) ∧ w.grownBy w' none := by
  have h := text_any 12638187200555641996 w (by unfold fnvM; decide)
  rw [text_a] at h
  exact h
theorem ofA (v : Value) (w : World) (hv : Strs w v [[97]]) : Calls Try.prog 16 #[v] w fun e w' => e = .returned (.int .u64 16573665792374991721) ∧ w.grownBy w' none := by
  have h := of_any [[97]] v w hv (by intro p hp; simp at hp; subst hp; decide) (by decide)
  rw [of_a] at h
  exact h
theorem ofB (v : Value) (w : World) (hv : Strs w v [[98]]) : Calls Try.prog 16 #[v] w fun e w' => e = .returned (.int .u64 16573662493840107088) ∧ w.grownBy w' none := by
  have h := of_any [[98]] v w hv (by intro p hp; simp at hp; subst hp; decide) (by decide)
  rw [of_b] at h
  exact h

set_option maxRecDepth 10000 in
set_option maxHeartbeats 2000000 in
theorem awake_any (w : World) : Calls Try.prog 11 #[] w (OK w) := by
  go_enter Try.func11, Try.ntmps11
  go_wp2_with fail
  refine (new_any w).mono ?_; rintro e w1 ⟨rfl, hh, hg⟩
  have G1 := Lib.hid hg
  have H1 := Lib.hid hh
  obtain ⟨r, hr⟩ : ∃ r, w.heap.size = r := ⟨_, rfl⟩
  rw [hr] at H1 ⊢
  have HR := Lib.hid hr
  clear hg hh hr
  go_wp2_with fail
  refine (hwrite_any r fnv0 _ [] w1 H1.out fnv0_lt (Bts.nil _) (by decide)).mono ?_; rintro e w2 ⟨rfl, hh, hg⟩
  have H2 : Hid (Hsh w2 r fnv0) := Lib.hid hh
  have G2 := Lib.hid (grown_own G1.out hg (fun n hn => by cases hn; exact Nat.le_of_eq HR.out))
  clear hg hh H1 G1
  go_wp2_with fail
  refine (hcopy_any r fnv0 w2 H2.out).mono ?_; rintro e w3 ⟨rfl, hh, hg⟩
  have hlt := H2.out.lt
  have HC3 := Lib.hid hh
  have H3 := Lib.hid (H2.out.new hg)
  have G3 := Lib.hid (World.grownBy.trans G2.out hg)
  have HNE : Hid (w2.heap.size ≠ r) := Lib.hid (by omega)
  generalize w2.heap.size = q at *
  clear hg hh hlt H2 G2
  have hkc := kc w3 #[.int .u8 97] 1 1
  go_wp2_with fail
  clear hkc
  have hbt := mark_bts w3 97
  have hg := World.grownBy_alloc w3 (.cells #[.int .u8 97] 5 (1, 2)) none
  refine (hwrite_any r fnv0 _ [97] _ (H3.out.new hg) fnv0_lt hbt (by decide)).mono ?_; rintro e w4 ⟨rfl, hh, hg4⟩
  rw [sumOn_a] at hh
  have HC4 := Lib.hid ((HC3.out.new hg).kept hg4 HNE.out)
  have H4 := Lib.hid hh
  have G4 := Lib.hid (grown_own (World.grownBy.trans G3.out hg) hg4 (fun n hn => by cases hn; exact Nat.le_of_eq HR.out))
  clear hg hh hg4 hbt H3 HC3 G3
  go_wp2_with fail
  refine (parseA w4).mono ?_; rintro e w5 ⟨rfl, hg⟩
  have G5 := Lib.hid (World.grownBy.trans G4.out hg)
  have H5 := Lib.hid (H4.out.new hg)
  have HC5 := Lib.hid (HC4.out.new hg)
  clear hg G4 H4 HC4
  go_wp2_with fail
  refine (sumA w5).mono ?_; rintro e w6 ⟨rfl, hg⟩
  have G6 := Lib.hid (World.grownBy.trans G5.out hg)
  have H6 := Lib.hid (H5.out.new hg)
  have HC6 := Lib.hid (HC5.out.new hg)
  clear hg G5 H5 HC5
  go_wp2_with fail
  refine (textA w6).mono ?_; rintro e w7 ⟨rfl, hg⟩
  have G7 := Lib.hid (World.grownBy.trans G6.out hg)
  have H7 := Lib.hid (H6.out.new hg)
  have HC7 := Lib.hid (HC6.out.new hg)
  clear hg G6 H6 HC6
  go_wp2_with fail
  refine (hsum_any r _ w7 H7.out).mono ?_; rintro e w8 ⟨rfl, hg⟩
  have G8 := Lib.hid (World.grownBy.trans G7.out hg)
  have H8 := Lib.hid (H7.out.new hg)
  have HC8 := Lib.hid (HC7.out.new hg)
  clear hg G7 H7 HC7
  go_wp2_with fail
  refine (sumA w8).mono ?_; rintro e w9 ⟨rfl, hg⟩
  have G9 := Lib.hid (World.grownBy.trans G8.out hg)
  have H9 := Lib.hid (H8.out.new hg)
  have HC9 := Lib.hid (HC8.out.new hg)
  clear hg G8 H8 HC8
  go_wp2_with fail
  refine (hsum_any q _ w9 HC9.out).mono ?_; rintro e w10 ⟨rfl, hg⟩
  have G10 := Lib.hid (World.grownBy.trans G9.out hg)
  have H10 := Lib.hid (H9.out.new hg)
  clear hg G9 H9 HC9
  go_wp2_with fail
  refine (sum0 w10).mono ?_; rintro e w11 ⟨rfl, hg⟩
  have G11 := Lib.hid (World.grownBy.trans G10.out hg)
  have H11 := Lib.hid (H10.out.new hg)
  clear hg G10 H10
  go_wp2_with fail
  refine (hsum_any r _ w11 H11.out).mono ?_; rintro e w12 ⟨rfl, hg⟩
  have G12 := Lib.hid (World.grownBy.trans G11.out hg)
  clear hg G11 H11
  go_wp2_with fail
  have hst := one_strs w12 [97]
  refine (ofA _ _ hst).mono ?_; rintro e w13 ⟨rfl, hg⟩
  have G13 := Lib.hid (World.grownBy.trans (World.grownBy.trans G12.out (World.grownBy_alloc _ _ _)) hg)
  clear hg hst G12
  go_wp2_with fail
  have hst := one_strs w13 [98]
  refine (ofB _ _ hst).mono ?_; rintro e w14 ⟨rfl, hg⟩
  have G14 := Lib.hid (World.grownBy.trans (World.grownBy.trans G13.out (World.grownBy_alloc _ _ _)) hg)
  clear hg hst G13
  go_wp2_with fail
  go_ret
  exact ⟨rfl, G14.out⟩
end Go.Proofs.Ytdicoojodefacaa
