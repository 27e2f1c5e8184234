/- XdrNames returns true, whatever the world. -/
import Derived.Test.YtdjapbgilcainaaWk
namespace Go.Proofs.Ytdjapbgilcainaa
open Go.RowKit

set_option maxRecDepth 100000 in
set_option maxHeartbeats 8000000 in
theorem names_walk (w : World) : Calls Try.prog 3 #[] w fun e w' => e = .returned (.bool true) ∧ w.grownBy w' none := by
  have kc := fun (w : World) (C : Array Value) (n c : Nat) => Lib.run_convert_bytes_const (P := Try.prog) w 23 5 C n c und22 und5
  have A := Lib.hid (All.start w)
  go_enter Try.func3, Try.ntmps3
  go_wp2_with fail
  refine (works_any _).mono ?_; rintro e w1 ⟨rfl, hg⟩; replace A := Lib.hid (A.out.new hg); clear hg
  go_wp2_with fail
  refine (Long_any _ [] 72623859790382856 _ (Bts.nil _) (by simp) (by omega)).mono ?_
  intro e w2 h
  obtain ⟨aw2, cw2, rfl, hs, ho, hg⟩ := h.txt #[1, 2, 3, 4, 5, 6, 7, 8] 8 (by decide) (by decide)
  replace A := Lib.hid (A.out.new hg)
  clear h hg ho
  go_wp2_with fail
  clear hs
  go_wp2_with fail
  refine (Word_any _ [] 4294901244 _ (Bts.nil _) (by simp) (by omega)).mono ?_
  intro e w3 h
  obtain ⟨aw3, cw3, rfl, hs, ho, hg⟩ := h.txt #[255, 254, 253, 252] 4 (by decide) (by decide)
  replace A := Lib.hid (A.out.new hg)
  clear h hg ho
  go_wp2_with fail
  clear hs
  go_wp2_with fail
  refine (Flag_any _ [] true _ (Bts.nil _) (by simp)).mono ?_
  intro e w4 h
  obtain ⟨aw4, cw4, rfl, hs, ho, hg⟩ := h.txt #[0, 0, 0, 1] 4 (by decide) (by decide)
  replace A := Lib.hid (A.out.new hg)
  clear h hg ho
  go_wp2_with fail
  clear hs
  go_wp2_with fail
  refine (Flag_any _ [] false _ (Bts.nil _) (by simp)).mono ?_
  intro e w5 h
  obtain ⟨aw5, cw5, rfl, hs, ho, hg⟩ := h.txt #[0, 0, 0, 0] 4 (by decide) (by decide)
  replace A := Lib.hid (A.out.new hg)
  clear h hg ho
  go_wp2_with fail
  clear hs
  go_wp2_with fail
  refine (Text_any _ [] ⟨#[]⟩ _ (Bts.nil _) (by simp) (by decide)).mono ?_
  intro e w6 h
  obtain ⟨aw6, cw6, rfl, hs, ho, hg⟩ := h.txt #[0, 0, 0, 0] 4 (by decide) (by decide)
  replace A := Lib.hid (A.out.new hg)
  clear h hg ho
  go_wp2_with fail
  clear hs
  go_wp2_with fail
  refine (Fixed_any _ [] ⟨#[]⟩ _ (Bts.nil _) (by simp) (by decide)).mono ?_
  intro e w7 h
  obtain ⟨aw7, cw7, rfl, hs, ho, hg⟩ := h.txt #[] 0 (by decide) (by decide)
  replace A := Lib.hid (A.out.new hg)
  clear h hg ho
  clear hs
  go_wp2_with fail
  refine (Fixed_any _ [] ⟨#[97, 98, 99, 100]⟩ _ (Bts.nil _) (by simp) (by decide)).mono ?_
  intro e w8 h
  obtain ⟨aw8, cw8, rfl, hs, ho, hg⟩ := h.txt #[97, 98, 99, 100] 4 (by decide) (by decide)
  replace A := Lib.hid (A.out.new hg)
  clear h hg ho
  go_wp2_with fail
  clear hs
  go_wp2_with fail
  refine (made_lit [97, 98, 99] rfl rfl (by simp)).mono ?_
  rintro e w9 ⟨ra, ga, rfl, h1, h2, h3, h4, h5⟩
  replace A : Hid (All w w9 [(ra, ga, some [97, 98, 99])]) := Lib.hid (A.out.made h1 h2 h3 h4 h5)
  clear h1 h2 h3 h4 h5
  go_wp2_with fail
  refine (made_lit [97, 98, 99, 1] rfl rfl (by simp)).mono ?_
  rintro e w10 ⟨rb, gb, rfl, h1, h2, h3, h4, h5⟩
  replace A : Hid (All w w10 [(ra, ga, some [97, 98, 99]), (rb, gb, some [97, 98, 99, 1])]) := Lib.hid (A.out.made h1 h2 h3 h4 h5)
  clear h1 h2 h3 h4 h5
  go_wp2_with fail
  refine (made_lit [97, 98, 0, 0, 120, 121] rfl rfl (by simp)).mono ?_
  rintro e w11 ⟨rc, gc, rfl, h1, h2, h3, h4, h5⟩
  replace A : Hid (All w w11 [(ra, ga, some [97, 98, 99]), (rb, gb, some [97, 98, 99, 1]), (rc, gc, some [97, 98, 0, 0, 120, 121])]) := Lib.hid (A.out.made h1 h2 h3 h4 h5)
  clear h1 h2 h3 h4 h5
  go_wp2_with fail
  refine (made_lit [255, 255, 255, 255] rfl rfl (by simp)).mono ?_
  rintro e w12 ⟨rd, gd, rfl, h1, h2, h3, h4, h5⟩
  replace A : Hid (All w w12 [(ra, ga, some [97, 98, 99]), (rb, gb, some [97, 98, 99, 1]), (rc, gc, some [97, 98, 0, 0, 120, 121]), (rd, gd, some [255, 255, 255, 255])]) := Lib.hid (A.out.made h1 h2 h3 h4 h5)
  clear h1 h2 h3 h4 h5
  go_wp2_with fail
  refine (made_lit [0, 0, 0, 9] rfl rfl (by simp)).mono ?_
  rintro e w13 ⟨re, ge, rfl, h1, h2, h3, h4, h5⟩
  replace A : Hid (All w w13 [(ra, ga, some [97, 98, 99]), (rb, gb, some [97, 98, 99, 1]), (rc, gc, some [97, 98, 0, 0, 120, 121]), (rd, gd, some [255, 255, 255, 255]), (re, ge, some [0, 0, 0, 9])]) := Lib.hid (A.out.made h1 h2 h3 h4 h5)
  clear h1 h2 h3 h4 h5
  go_wp2_with fail
  refine (made_lit [0, 0, 0, 0, 0, 0, 0, 7, 0] rfl rfl (by simp)).mono ?_
  rintro e w14 ⟨rf, gf, rfl, h1, h2, h3, h4, h5⟩
  replace A : Hid (All w w14 [(ra, ga, some [97, 98, 99]), (rb, gb, some [97, 98, 99, 1]), (rc, gc, some [97, 98, 0, 0, 120, 121]), (rd, gd, some [255, 255, 255, 255]), (re, ge, some [0, 0, 0, 9]), (rf, gf, some [0, 0, 0, 0, 0, 0, 0, 7, 0])]) := Lib.hid (A.out.made h1 h2 h3 h4 h5)
  clear h1 h2 h3 h4 h5
  go_wp2_with fail
  refine (word_l ra ga _ _ (A.out.get 0 rfl) 0 none (by decide)).mono ?_
  rintro e w15 ⟨rfl, h1, h2⟩
  replace A : Hid (All w w15 [(ra, ga, none), (rb, gb, some [97, 98, 99, 1]), (rc, gc, some [97, 98, 0, 0, 120, 121]), (rd, gd, some [255, 255, 255, 255]), (re, ge, some [0, 0, 0, 9]), (rf, gf, some [0, 0, 0, 0, 0, 0, 0, 7, 0])]) := Lib.hid (A.out.read 0 rfl h1 h2)
  clear h1 h2
  go_wp2_with fail
  refine (ok_l ra ga _ _ (A.out.get 0 rfl) false (by decide)).mono ?_
  rintro e w16 ⟨rfl, rfl⟩
  go_wp2_with fail
  refine (left_l ra ga _ _ (A.out.get 0 rfl) 0 (by decide)).mono ?_
  rintro e w17 ⟨rfl, rfl⟩
  go_wp2_with fail
  refine (fixed_l rb gb _ _ (A.out.get 1 rfl) (3) #[] none (by decide)).mono ?_
  rintro e w18 ⟨rfl, h1, h2⟩
  replace A : Hid (All w w18 [(ra, ga, none), (rb, gb, none), (rc, gc, some [97, 98, 0, 0, 120, 121]), (rd, gd, some [255, 255, 255, 255]), (re, ge, some [0, 0, 0, 9]), (rf, gf, some [0, 0, 0, 0, 0, 0, 0, 7, 0])]) := Lib.hid (A.out.read 1 rfl h1 h2)
  clear h1 h2
  go_wp2_with fail
  refine (ok_l rb gb _ _ (A.out.get 1 rfl) false (by decide)).mono ?_
  rintro e w19 ⟨rfl, rfl⟩
  go_wp2_with fail
  refine (fixed_l rc gc _ _ (A.out.get 2 rfl) (2) #[97, 98] (some [120, 121]) (by decide)).mono ?_
  rintro e w20 ⟨rfl, h1, h2⟩
  replace A : Hid (All w w20 [(ra, ga, none), (rb, gb, none), (rc, gc, some [120, 121]), (rd, gd, some [255, 255, 255, 255]), (re, ge, some [0, 0, 0, 9]), (rf, gf, some [0, 0, 0, 0, 0, 0, 0, 7, 0])]) := Lib.hid (A.out.read 2 rfl h1 h2)
  clear h1 h2
  go_wp2_with fail
  refine (fixed_l rc gc _ _ (A.out.get 2 rfl) (-1) #[] none (by decide)).mono ?_
  rintro e w21 ⟨rfl, h1, h2⟩
  replace A : Hid (All w w21 [(ra, ga, none), (rb, gb, none), (rc, gc, none), (rd, gd, some [255, 255, 255, 255]), (re, ge, some [0, 0, 0, 9]), (rf, gf, some [0, 0, 0, 0, 0, 0, 0, 7, 0])]) := Lib.hid (A.out.read 2 rfl h1 h2)
  clear h1 h2
  go_wp2_with fail
  refine (ok_l rc gc _ _ (A.out.get 2 rfl) false (by decide)).mono ?_
  rintro e w22 ⟨rfl, rfl⟩
  go_wp2_with fail
  refine (left_l rc gc _ _ (A.out.get 2 rfl) 0 (by decide)).mono ?_
  rintro e w23 ⟨rfl, rfl⟩
  go_wp2_with fail
  refine (count_l rd gd _ _ (A.out.get 3 rfl) (100) 0 none (by decide)).mono ?_
  rintro e w24 ⟨rfl, h1, h2⟩
  replace A : Hid (All w w24 [(ra, ga, none), (rb, gb, none), (rc, gc, none), (rd, gd, none), (re, ge, some [0, 0, 0, 9]), (rf, gf, some [0, 0, 0, 0, 0, 0, 0, 7, 0])]) := Lib.hid (A.out.read 3 rfl h1 h2)
  clear h1 h2
  go_wp2_with fail
  refine (ok_l rd gd _ _ (A.out.get 3 rfl) false (by decide)).mono ?_
  rintro e w25 ⟨rfl, rfl⟩
  go_wp2_with fail
  refine (count_l re ge _ _ (A.out.get 4 rfl) (9) 9 (some []) (by decide)).mono ?_
  rintro e w26 ⟨rfl, h1, h2⟩
  replace A : Hid (All w w26 [(ra, ga, none), (rb, gb, none), (rc, gc, none), (rd, gd, none), (re, ge, some []), (rf, gf, some [0, 0, 0, 0, 0, 0, 0, 7, 0])]) := Lib.hid (A.out.read 4 rfl h1 h2)
  clear h1 h2
  go_wp2_with fail
  refine (done_l re ge _ _ (A.out.get 4 rfl) true (by decide)).mono ?_
  rintro e w27 ⟨rfl, rfl⟩
  go_wp2_with fail
  refine (long_l rf gf _ _ (A.out.get 5 rfl) 7 (some [0]) (by decide)).mono ?_
  rintro e w28 ⟨rfl, h1, h2⟩
  replace A : Hid (All w w28 [(ra, ga, none), (rb, gb, none), (rc, gc, none), (rd, gd, none), (re, ge, some []), (rf, gf, some [0])]) := Lib.hid (A.out.read 5 rfl h1 h2)
  clear h1 h2
  go_wp2_with fail
  refine (ok_l rf gf _ _ (A.out.get 5 rfl) true (by decide)).mono ?_
  rintro e w29 ⟨rfl, rfl⟩
  go_wp2_with fail
  refine (done_l rf gf _ _ (A.out.get 5 rfl) false (by decide)).mono ?_
  rintro e w30 ⟨rfl, rfl⟩
  go_wp2_with fail
  refine (left_l rf gf _ _ (A.out.get 5 rfl) 1 (by decide)).mono ?_
  rintro e w31 ⟨rfl, rfl⟩
  go_wp2_with fail
  refine (made_lit [0, 0, 0, 0, 0, 0, 0, 1] rfl rfl (by simp)).mono ?_
  rintro e w32 ⟨rg, gg, rfl, h1, h2, h3, h4, h5⟩
  replace A : Hid (All w w32 [(ra, ga, none), (rb, gb, none), (rc, gc, none), (rd, gd, none), (re, ge, some []), (rf, gf, some [0]), (rg, gg, some [0, 0, 0, 0, 0, 0, 0, 1])]) := Lib.hid (A.out.made h1 h2 h3 h4 h5)
  clear h1 h2 h3 h4 h5
  go_wp2_with fail
  refine (Int_any _ [] (-9223372036854775808) _ (Bts.nil _) (by simp)).mono ?_
  intro e w33 h
  obtain ⟨aw33, cw33, rfl, hs, ho, hg⟩ := h.txt #[128, 0, 0, 0, 0, 0, 0, 0] 8 (by decide) (by decide)
  replace A := Lib.hid (A.out.new hg)
  have HO := Lib.hid ho.bts
  clear h hg hs ho
  go_wp2_with fail
  refine (newReader_any _ [128, 0, 0, 0, 0, 0, 0, 0] _ HO.out (by simp)).mono ?_
  rintro e w34 ⟨rh, gh, rfl, h1, h2, h3, h4, h5⟩
  replace A : Hid (All w w34 [(ra, ga, none), (rb, gb, none), (rc, gc, none), (rd, gd, none), (re, ge, some []), (rf, gf, some [0]), (rg, gg, some [0, 0, 0, 0, 0, 0, 0, 1]), (rh, gh, some [128, 0, 0, 0, 0, 0, 0, 0])]) := Lib.hid (A.out.made h1 h2 h3 h4 h5)
  clear h1 h2 h3 h4 h5
  go_wp2_with fail
  refine (made_lit [97, 98, 99, 100, 101, 102] rfl rfl (by simp)).mono ?_
  rintro e w35 ⟨ri, gi, rfl, h1, h2, h3, h4, h5⟩
  replace A : Hid (All w w35 [(ra, ga, none), (rb, gb, none), (rc, gc, none), (rd, gd, none), (re, ge, some []), (rf, gf, some [0]), (rg, gg, some [0, 0, 0, 0, 0, 0, 0, 1]), (rh, gh, some [128, 0, 0, 0, 0, 0, 0, 0]), (ri, gi, some [97, 98, 99, 100, 101, 102])]) := Lib.hid (A.out.made h1 h2 h3 h4 h5)
  clear h1 h2 h3 h4 h5
  go_wp2_with fail
  refine (newReader_any _ [] _ (Bts.nil _) (by simp)).mono ?_
  rintro e w36 ⟨rj, gj, rfl, h1, h2, h3, h4, h5⟩
  replace A : Hid (All w w36 [(ra, ga, none), (rb, gb, none), (rc, gc, none), (rd, gd, none), (re, ge, some []), (rf, gf, some [0]), (rg, gg, some [0, 0, 0, 0, 0, 0, 0, 1]), (rh, gh, some [128, 0, 0, 0, 0, 0, 0, 0]), (ri, gi, some [97, 98, 99, 100, 101, 102]), (rj, gj, some [])]) := Lib.hid (A.out.made h1 h2 h3 h4 h5)
  clear h1 h2 h3 h4 h5
  go_wp2_with fail
  refine (text_l rg gg _ _ (A.out.get 6 rfl) (-5) #[] (some [0, 0, 0, 1]) (by decide)).mono ?_
  rintro e w37 ⟨rfl, h1, h2⟩
  replace A : Hid (All w w37 [(ra, ga, none), (rb, gb, none), (rc, gc, none), (rd, gd, none), (re, ge, some []), (rf, gf, some [0]), (rg, gg, some [0, 0, 0, 1]), (rh, gh, some [128, 0, 0, 0, 0, 0, 0, 0]), (ri, gi, some [97, 98, 99, 100, 101, 102]), (rj, gj, some [])]) := Lib.hid (A.out.read 6 rfl h1 h2)
  clear h1 h2
  go_wp2_with fail
  refine (ok_l rg gg _ _ (A.out.get 6 rfl) true (by decide)).mono ?_
  rintro e w38 ⟨rfl, rfl⟩
  go_wp2_with fail
  refine (text_l rg gg _ _ (A.out.get 6 rfl) (-5) #[] none (by decide)).mono ?_
  rintro e w39 ⟨rfl, h1, h2⟩
  replace A : Hid (All w w39 [(ra, ga, none), (rb, gb, none), (rc, gc, none), (rd, gd, none), (re, ge, some []), (rf, gf, some [0]), (rg, gg, none), (rh, gh, some [128, 0, 0, 0, 0, 0, 0, 0]), (ri, gi, some [97, 98, 99, 100, 101, 102]), (rj, gj, some [])]) := Lib.hid (A.out.read 6 rfl h1 h2)
  clear h1 h2
  go_wp2_with fail
  refine (ok_l rg gg _ _ (A.out.get 6 rfl) false (by decide)).mono ?_
  rintro e w40 ⟨rfl, rfl⟩
  go_wp2_with fail
  refine (int_l rh gh _ _ (A.out.get 7 rfl) (-9223372036854775808) (some []) (by decide +kernel)).mono ?_
  rintro e w41 ⟨rfl, h1, h2⟩
  replace A : Hid (All w w41 [(ra, ga, none), (rb, gb, none), (rc, gc, none), (rd, gd, none), (re, ge, some []), (rf, gf, some [0]), (rg, gg, none), (rh, gh, some []), (ri, gi, some [97, 98, 99, 100, 101, 102]), (rj, gj, some [])]) := Lib.hid (A.out.read 7 rfl h1 h2)
  clear h1 h2
  go_wp2_with fail
  refine (done_l rh gh _ _ (A.out.get 7 rfl) true (by decide)).mono ?_
  rintro e w42 ⟨rfl, rfl⟩
  go_wp2_with fail
  refine (long_l ri gi _ _ (A.out.get 8 rfl) 0 none (by decide)).mono ?_
  rintro e w43 ⟨rfl, h1, h2⟩
  replace A : Hid (All w w43 [(ra, ga, none), (rb, gb, none), (rc, gc, none), (rd, gd, none), (re, ge, some []), (rf, gf, some [0]), (rg, gg, none), (rh, gh, some []), (ri, gi, none), (rj, gj, some [])]) := Lib.hid (A.out.read 8 rfl h1 h2)
  clear h1 h2
  go_wp2_with fail
  refine (ok_l ri gi _ _ (A.out.get 8 rfl) false (by decide)).mono ?_
  rintro e w44 ⟨rfl, rfl⟩
  go_wp2_with fail
  refine (done_l rj gj _ _ (A.out.get 9 rfl) true (by decide)).mono ?_
  rintro e w45 ⟨rfl, rfl⟩
  go_wp2_with fail
  refine (fixed_l rj gj _ _ (A.out.get 9 rfl) (0) #[] (some []) (by decide)).mono ?_
  rintro e w46 ⟨rfl, h1, h2⟩
  replace A : Hid (All w w46 [(ra, ga, none), (rb, gb, none), (rc, gc, none), (rd, gd, none), (re, ge, some []), (rf, gf, some [0]), (rg, gg, none), (rh, gh, some []), (ri, gi, none), (rj, gj, some [])]) := Lib.hid (A.out.read 9 rfl h1 h2)
  clear h1 h2
  go_wp2_with fail
  refine (ok_l rj gj _ _ (A.out.get 9 rfl) true (by decide)).mono ?_
  rintro e w47 ⟨rfl, rfl⟩
  go_wp2_with fail
  refine (fixed_l rj gj _ _ (A.out.get 9 rfl) (1) #[] none (by decide)).mono ?_
  rintro e w48 ⟨rfl, h1, h2⟩
  replace A : Hid (All w w48 [(ra, ga, none), (rb, gb, none), (rc, gc, none), (rd, gd, none), (re, ge, some []), (rf, gf, some [0]), (rg, gg, none), (rh, gh, some []), (ri, gi, none), (rj, gj, none)]) := Lib.hid (A.out.read 9 rfl h1 h2)
  clear h1 h2
  go_wp2_with fail
  refine (ok_l rj gj _ _ (A.out.get 9 rfl) false (by decide)).mono ?_
  rintro e w49 ⟨rfl, rfl⟩
  go_wp2_with fail
  refine (word_nil _).mono ?_; rintro e w50 ⟨rfl, rfl⟩
  go_wp2_with fail
  refine (long_nil _).mono ?_; rintro e w51 ⟨rfl, rfl⟩
  go_wp2_with fail
  refine (int_nil _).mono ?_; rintro e w52 ⟨rfl, rfl⟩
  go_wp2_with fail
  refine (flag_nil _).mono ?_; rintro e w53 ⟨rfl, rfl⟩
  go_wp2_with fail
  refine (text_nil _ _ (by omega)).mono ?_; rintro e w54 ⟨rfl, rfl⟩
  go_wp2_with fail
  refine (fixed_nil _ _ (by omega)).mono ?_; rintro e w55 ⟨rfl, rfl⟩
  go_wp2_with fail
  refine (count_nil _ _ (by omega)).mono ?_; rintro e w56 ⟨rfl, rfl⟩
  go_wp2_with fail
  refine (left_nil _).mono ?_; rintro e w57 ⟨rfl, rfl⟩
  go_wp2_with fail
  refine (ok_nil _).mono ?_; rintro e w58 ⟨rfl, rfl⟩
  go_wp2_with fail
  refine (done_nil _).mono ?_; rintro e w59 ⟨rfl, rfl⟩
  go_wp2_with fail
  go_ret
  exact ⟨rfl, A.out.1⟩
end Go.Proofs.Ytdjapbgilcainaa
