/- The examples of layer 1, which each of its statements asks first. -/
import Derived.Test.YtdjapbgilcainaaNew
import Derived.Lib.SlBytesConst
namespace Go.Proofs.Ytdjapbgilcainaa
open Go.RowKit

section
variable (r : Nat) (g : Option Nat) (s : St) (w : World) (hr : RdrS w r g s)
include hr
theorem word_l (n : Int) (s' : St) (he : rWord s = (n, s')) : Calls Try.prog 17 #[.pointer (some ⟨r, 0, none⟩)] w (Rd w r g (.int .u32 n) s') := by
  have h := word_s r g s w hr; rw [he] at h; exact h
theorem long_l (n : Int) (s' : St) (he : rLong s = (n, s')) : Calls Try.prog 23 #[.pointer (some ⟨r, 0, none⟩)] w (Rd w r g (.int .u64 n) s') := by
  have h := long_s r g s w hr; rw [he] at h; exact h
theorem int_l (n : Int) (s' : St) (he : rInt s = (n, s')) : Calls Try.prog 26 #[.pointer (some ⟨r, 0, none⟩)] w (Rd w r g (.int .i64 n) s') := by
  have h := int_s r g s w hr; rw [he] at h; exact h
theorem flag_l (b : Bool) (s' : St) (he : rFlag s = (b, s')) : Calls Try.prog 27 #[.pointer (some ⟨r, 0, none⟩)] w (Rd w r g (.bool b) s') := by
  have h := flag_s r g s w hr; rw [he] at h; exact h
theorem count_l (m n : Int) (s' : St) (he : rCount m s = (n, s')) : Calls Try.prog 21 #[.pointer (some ⟨r, 0, none⟩), .int .i64 m] w (Rd w r g (.int .i64 n) s') := by
  have h := count_s r g s m w hr; rw [he] at h; exact h
theorem text_l (m : Int) (out : Array UInt8) (s' : St) (he : rText m s = (out.toList, s')) : Calls Try.prog 25 #[.pointer (some ⟨r, 0, none⟩), .int .i64 m] w (Rd w r g (.string ⟨out⟩) s') := by
  have h := text_s r g s m w hr; rw [he] at h; exact h
theorem fixed_l (m : Int) (out : Array UInt8) (s' : St) (he : rFixed m s = (out.toList, s')) : Calls Try.prog 20 #[.pointer (some ⟨r, 0, none⟩), .int .i64 m] w (Rd w r g (.string ⟨out⟩) s') := by
  have h := fixed_s r g s m w hr; rw [he] at h; exact h
theorem ok_l (b : Bool) (he : s.isSome = b) : Calls Try.prog 18 #[.pointer (some ⟨r, 0, none⟩)] w fun e w' => e = .returned (.bool b) ∧ w = w' := by
  have h := ok_s r g s w hr; rw [he] at h; exact h
theorem left_l (n : Int) (he : (rLeft s : Int) = n) : Calls Try.prog 19 #[.pointer (some ⟨r, 0, none⟩)] w fun e w' => e = .returned (.int .i64 n) ∧ w = w' := by
  have h := left_s r g s w hr; rw [he] at h; exact h
theorem done_l (b : Bool) (he : rDone s = b) : Calls Try.prog 22 #[.pointer (some ⟨r, 0, none⟩)] w fun e w' => e = .returned (.bool b) ∧ w = w' := by
  have h := done_s r g s w hr; rw [he] at h; exact h
end

/-- New bytes, told: what becomes a text is known. -/
def Txt (w : World) (out : Array UInt8) (n : Nat) (e : Ending) (w' : World) : Prop :=
  ∃ a c, e = .returned (.slice a n c) ∧ (convert 23 9 (.slice a n c)).run Try.prog w' = .ok (.string ⟨out⟩) w' ∧ Own w' w.heap.size (.slice a n c) out.toList ∧ w.grownBy w' none

theorem New.txt {w w' : World} {bs : List UInt8} {e : Ending} (h : New w bs e w') (out : Array UInt8) (n : Nat) (he : bs = out.toList) (hn : bs.length = n) : Txt w out n e w' := by
  subst hn
  subst he
  obtain ⟨v, rfl, h1, h2⟩ := h
  obtain ⟨a, c, rfl, _, _⟩ := h1.bts.form
  have hs := h1.bts.str und22 und5 und9
  exact ⟨a, c, rfl, hs, h1, h2⟩

/-- A literal's bytes. -/
theorem bts_lit {w : World} {g n : Nat} {t : TypeId} {m : Nat × Nat} {cs : Array Value} (bs : List UInt8) (h : w.heap[g]? = some (.cells cs t m)) (he : cs = (bs.map u8v).toArray) (hn : n = bs.length) (hm : bs.length ≤ 3000) : Bts w (.slice (some ⟨g, 0, none⟩) n n) bs := by
  subst he hn
  refine .inr (.inl ⟨g, 0, _, rfl, Nat.le_refl _, by unfold maxLen; omega, fun i hi => ?_⟩)
  simp [World.cell?, h, hi, u8v]

theorem made_lit {w : World} {n : Nat} {t : TypeId} {m : Nat × Nat} {cs : Array Value} (bs : List UInt8) (he : cs = (bs.map u8v).toArray) (hn : n = bs.length) (hm : bs.length ≤ 3000) :
    Calls Try.prog 16 #[.slice (some ⟨w.heap.size, 0, none⟩) n n] (w.alloc (.cells cs t m)) (Made w bs) :=
  (newReader_any _ bs _ (bts_lit bs (heap_alloc_new w _) he hn hm) (by omega)).mono fun _ _ ⟨r, g, h1, h2, h3, h4, h5, h6⟩ =>
    have hg := World.grownBy_alloc w (.cells cs t m) none
    ⟨r, g, h1, h2, World.grownBy.trans hg h3, Nat.le_trans hg.size h4, h5, fun k hk => ⟨Nat.le_trans hg.size (h6 k hk).1, (h6 k hk).2⟩⟩

/-- A reader that was made behind world w, as it stands in w'. -/
def At (w : World) (x : Nat × Option Nat × St) (w' : World) : Prop :=
  RdrS w' x.1 x.2.1 x.2.2 ∧ w.heap.size ≤ x.1 ∧ x.1 < w'.heap.size ∧ (∀ k, x.2.1 = some k → w.heap.size ≤ k ∧ k < w'.heap.size)

/-- Readers that were made behind world w, each apart from all others. -/
def All (w w' : World) (L : List (Nat × Option Nat × St)) : Prop :=
  w.grownBy w' none ∧ (∀ (i : Nat) x, L[i]? = some x → At w x w') ∧ (∀ (i j : Nat) x y, i ≠ j → L[i]? = some x → L[j]? = some y → x.1 ≠ y.1 ∧ y.2.1 ≠ some x.1)

theorem All.start (w : World) : All w w [] := ⟨World.grownBy.refl _ _, fun i x h => by simp at h, fun i j x y _ h => by simp at h⟩

theorem All.new {w w1 w2 : World} {L : List (Nat × Option Nat × St)} (h : All w w1 L) (hg : w1.grownBy w2 none) : All w w2 L :=
  ⟨World.grownBy.trans h.1 hg, fun i x hx => have k := h.2.1 i x hx
    ⟨k.1.new hg, k.2.1, Nat.lt_of_lt_of_le k.2.2.1 hg.size, fun n hn => ⟨(k.2.2.2 n hn).1, Nat.lt_of_lt_of_le (k.2.2.2 n hn).2 hg.size⟩⟩, h.2.2⟩

theorem All.get {w w1 : World} {L : List (Nat × Option Nat × St)} (h : All w w1 L) (i : Nat) {r : Nat} {g : Option Nat} {s : St} (hx : L[i]? = some (r, g, s)) : RdrS w1 r g s := (h.2.1 i _ hx).1

/-- One of them reads. -/
theorem All.read {w w1 w2 : World} {L : List (Nat × Option Nat × St)} (h : All w w1 L) (i : Nat) {r : Nat} {g : Option Nat} {s s' : St} (hx : L[i]? = some (r, g, s)) (hs : RdrS w2 r g s') (hg : w1.grownBy w2 (some r)) : All w w2 (L.set i (r, g, s')) := by
  have hi : i < L.length := (List.getElem?_eq_some_iff.1 hx).1
  have hr := h.2.1 i _ hx
  refine ⟨grown_own h.1 hg (fun n hn => by cases hn; exact hr.2.1), fun j x hj => ?_, fun j k x y hjk hj hk => ?_⟩
  · by_cases hij : i = j
    · subst hij
      rw [List.getElem?_set_self hi] at hj
      cases hj
      exact ⟨hs, hr.2.1, Nat.lt_of_lt_of_le hr.2.2.1 hg.size, fun n hn => ⟨(hr.2.2.2 n hn).1, Nat.lt_of_lt_of_le (hr.2.2.2 n hn).2 hg.size⟩⟩
    · rw [List.getElem?_set_ne hij] at hj
      have k := h.2.1 j x hj
      have far := h.2.2 i j _ x hij hx hj
      exact ⟨k.1.kept hg (fun e => far.1 (Option.some.inj e)) (.inr far.2), k.2.1, Nat.lt_of_lt_of_le k.2.2.1 hg.size, fun n hn => ⟨(k.2.2.2 n hn).1, Nat.lt_of_lt_of_le (k.2.2.2 n hn).2 hg.size⟩⟩
  · by_cases h1 : i = j
    · subst h1
      rw [List.getElem?_set_self hi] at hj
      rw [List.getElem?_set_ne hjk] at hk
      cases hj
      exact h.2.2 i k (r, g, s) y hjk hx hk
    · rw [List.getElem?_set_ne h1] at hj
      by_cases h2 : i = k
      · subst h2
        rw [List.getElem?_set_self hi] at hk
        cases hk
        exact h.2.2 j i x (r, g, s) hjk hj hx
      · rw [List.getElem?_set_ne h2] at hk
        exact h.2.2 j k x y hjk hj hk

/-- One more is made. -/
theorem All.made {w w1 w2 : World} {L : List (Nat × Option Nat × St)} (h : All w w1 L) {r : Nat} {g : Option Nat} {s : St} (h1 : RdrS w2 r g s) (hg : w1.grownBy w2 none) (h2 : w1.heap.size ≤ r) (h3 : r < w2.heap.size) (h4 : ∀ k, g = some k → w1.heap.size ≤ k ∧ k < w2.heap.size) : All w w2 (L ++ [(r, g, s)]) := by
  have hn := h.new hg
  have hsz := h.1.size
  refine ⟨hn.1, fun i x hx => ?_, fun i j x y hij hx hy => ?_⟩
  · rw [List.getElem?_append] at hx
    split at hx
    · exact hn.2.1 i x hx
    · rename_i hl
      obtain ⟨hi, hx⟩ := List.getElem?_eq_some_iff.1 hx
      simp only [List.getElem_singleton] at hx
      subst hx
      exact ⟨h1, by simp; omega, h3, fun k hk => ⟨by have := (h4 k hk).1; omega, (h4 k hk).2⟩⟩
  · have old : ∀ (i : Nat) x, L[i]? = some x → x.1 < w1.heap.size ∧ ∀ k, x.2.1 = some k → k < w1.heap.size := fun i x hx => ⟨(h.2.1 i x hx).2.2.1, fun k hk => ((h.2.1 i x hx).2.2.2 k hk).2⟩
    rw [List.getElem?_append] at hx hy
    split at hx <;> split at hy
    · exact hn.2.2 i j x y hij hx hy
    · obtain ⟨hi, hy⟩ := List.getElem?_eq_some_iff.1 hy
      simp only [List.getElem_singleton] at hy
      subst hy
      have hx := old i x hx
      exact ⟨fun e => by have := hx.1; simp at e; omega, fun e => by have := (h4 _ e).1; have := hx.1; omega⟩
    · obtain ⟨hi, hx⟩ := List.getElem?_eq_some_iff.1 hx
      simp only [List.getElem_singleton] at hx
      subst hx
      have hy := old j y hy
      exact ⟨fun e => by have := hy.1; simp at e; omega, fun e => by have := hy.2 _ e; simp at this; omega⟩
    · obtain ⟨hi, hx⟩ := List.getElem?_eq_some_iff.1 hx
      obtain ⟨hj, hy⟩ := List.getElem?_eq_some_iff.1 hy
      simp at hi hj
      omega

set_option maxHeartbeats 2000000 in
theorem works_any (w : World) : Calls Try.prog 10 #[] w fun e w' => e = .returned (.bool true) ∧ w.grownBy w' none := by
  have kc := fun (w : World) (C : Array Value) (n c : Nat) => Lib.run_convert_bytes_const (P := Try.prog) w 23 5 C n c und22 und5
  have A := Lib.hid (All.start w)
  go_enter Try.func10, Try.ntmps10
  go_wp2_with fail
  refine (made_lit [0, 0, 0, 4, 97, 98, 99, 100] rfl rfl (by simp)).mono ?_
  rintro e w1 ⟨ra, ga, rfl, h1, h2, h3, h4, h5⟩
  replace A : Hid (All w w1 [(ra, ga, some [0, 0, 0, 4, 97, 98, 99, 100])]) := Lib.hid (A.out.made h1 h2 h3 h4 h5)
  clear h1 h2 h3 h4 h5
  go_wp2_with fail
  refine (made_lit [0, 0, 0, 2] rfl rfl (by simp)).mono ?_
  rintro e w2 ⟨rb, gb, rfl, h1, h2, h3, h4, h5⟩
  replace A : Hid (All w w2 [(ra, ga, some [0, 0, 0, 4, 97, 98, 99, 100]), (rb, gb, some [0, 0, 0, 2])]) := Lib.hid (A.out.made h1 h2 h3 h4 h5)
  clear h1 h2 h3 h4 h5
  go_wp2_with fail
  refine (made_lit [0, 0, 0, 5, 97, 98, 99, 100, 101, 0, 0, 0, 0, 0, 0, 1] rfl rfl (by simp)).mono ?_
  rintro e w3 ⟨rc, gc, rfl, h1, h2, h3, h4, h5⟩
  replace A : Hid (All w w3 [(ra, ga, some [0, 0, 0, 4, 97, 98, 99, 100]), (rb, gb, some [0, 0, 0, 2]), (rc, gc, some [0, 0, 0, 5, 97, 98, 99, 100, 101, 0, 0, 0, 0, 0, 0, 1])]) := Lib.hid (A.out.made h1 h2 h3 h4 h5)
  clear h1 h2 h3 h4 h5
  go_wp2_with fail
  refine (Word_any _ [] 1 _ (Bts.nil _) (by simp) (by omega)).mono ?_
  intro e w4 h
  obtain ⟨aw4, cw4, rfl, hs, ho, hg⟩ := h.txt #[0, 0, 0, 1] 4 (by decide) (by decide)
  replace A := Lib.hid (A.out.new hg)
  clear h hg ho
  go_wp2_with fail
  clear hs
  go_wp2_with fail
  refine (Int_any _ [] (-1) _ (Bts.nil _) (by simp)).mono ?_
  intro e w5 h
  obtain ⟨aw5, cw5, rfl, hs, ho, hg⟩ := h.txt #[255, 255, 255, 255, 255, 255, 255, 255] 8 (by decide) (by decide)
  replace A := Lib.hid (A.out.new hg)
  clear h hg ho
  go_wp2_with fail
  clear hs
  go_wp2_with fail
  refine (Text_any _ [] ⟨#[97, 98, 99, 100, 101]⟩ _ (Bts.nil _) (by simp) (by decide)).mono ?_
  intro e w6 h
  obtain ⟨aw6, cw6, rfl, hs, ho, hg⟩ := h.txt #[0, 0, 0, 5, 97, 98, 99, 100, 101, 0, 0, 0] 12 (by decide) (by decide)
  replace A := Lib.hid (A.out.new hg)
  clear h hg ho
  go_wp2_with fail
  clear hs
  go_wp2_with fail
  refine (Fixed_any _ [120] ⟨#[97]⟩ _ (bts_lit _ (heap_alloc_new _ _) rfl rfl (by simp)) (by simp) (by decide)).mono ?_
  intro e w7 h
  obtain ⟨aw7, cw7, rfl, hs, ho, hg⟩ := h.txt #[120, 97, 0, 0, 0] 5 (by decide) (by decide)
  replace A := Lib.hid (A.out.new (World.grownBy.trans (World.grownBy_alloc _ _ _) hg))
  clear h hg ho
  go_wp2_with fail
  clear hs
  go_wp2_with fail
  refine (text_l ra ga _ _ (A.out.get 0 rfl) (3) #[] none (by decide)).mono ?_
  rintro e w8 ⟨rfl, h1, h2⟩
  replace A : Hid (All w w8 [(ra, ga, none), (rb, gb, some [0, 0, 0, 2]), (rc, gc, some [0, 0, 0, 5, 97, 98, 99, 100, 101, 0, 0, 0, 0, 0, 0, 1])]) := Lib.hid (A.out.read 0 rfl h1 h2)
  clear h1 h2
  go_wp2_with fail
  refine (ok_l ra ga _ _ (A.out.get 0 rfl) false (by decide)).mono ?_
  rintro e w9 ⟨rfl, rfl⟩
  go_wp2_with fail
  refine (flag_l rb gb _ _ (A.out.get 1 rfl) false none (by decide)).mono ?_
  rintro e w10 ⟨rfl, h1, h2⟩
  replace A : Hid (All w w10 [(ra, ga, none), (rb, gb, none), (rc, gc, some [0, 0, 0, 5, 97, 98, 99, 100, 101, 0, 0, 0, 0, 0, 0, 1])]) := Lib.hid (A.out.read 1 rfl h1 h2)
  clear h1 h2
  go_wp2_with fail
  refine (ok_l rb gb _ _ (A.out.get 1 rfl) false (by decide)).mono ?_
  rintro e w11 ⟨rfl, rfl⟩
  go_wp2_with fail
  refine (text_l rc gc _ _ (A.out.get 2 rfl) (5) #[97, 98, 99, 100, 101] (some [0, 0, 0, 1]) (by decide)).mono ?_
  rintro e w12 ⟨rfl, h1, h2⟩
  replace A : Hid (All w w12 [(ra, ga, none), (rb, gb, none), (rc, gc, some [0, 0, 0, 1])]) := Lib.hid (A.out.read 2 rfl h1 h2)
  clear h1 h2
  go_wp2_with fail
  refine (left_l rc gc _ _ (A.out.get 2 rfl) 4 (by decide)).mono ?_
  rintro e w13 ⟨rfl, rfl⟩
  go_wp2_with fail
  refine (flag_l rc gc _ _ (A.out.get 2 rfl) true (some []) (by decide)).mono ?_
  rintro e w14 ⟨rfl, h1, h2⟩
  replace A : Hid (All w w14 [(ra, ga, none), (rb, gb, none), (rc, gc, some [])]) := Lib.hid (A.out.read 2 rfl h1 h2)
  clear h1 h2
  go_wp2_with fail
  refine (done_l rc gc _ _ (A.out.get 2 rfl) true (by decide)).mono ?_
  rintro e w15 ⟨rfl, rfl⟩
  go_wp2_with fail
  go_ret
  exact ⟨rfl, A.out.1⟩
end Go.Proofs.Ytdjapbgilcainaa
