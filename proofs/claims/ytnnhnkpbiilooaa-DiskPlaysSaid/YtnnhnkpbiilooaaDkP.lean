/- Disks that lose what was not flushed: plain facts. -/
import Derived.Test.YtnnhnkpbiilooaaOwn
namespace Go.Proofs.Ytnnhnkpbiilooaa
open Go.RowKit

/-- A block: 512 bytes. -/
structure Bk where
  l : List UInt8
  h : l.length = 512

theorem Bk.ext' {a b : Bk} (h : a.l = b.l) : a = b := by cases a; cases b; cases h; rfl
instance : DecidableEq Bk := fun a b => if h : a.l = b.l then isTrue (Bk.ext' h) else isFalse (fun e => h (by rw [e]))

def Bk.zero : Bk := ⟨List.replicate 512 0, List.length_replicate⟩
/-- The block of a byte. -/
def Bk.of (c : UInt8) : Bk := ⟨(((List.replicate 512 0).set 0 c).set 200 (c + 1)).set 511 (c + 2), by rw [List.length_set, List.length_set, List.length_set, List.length_replicate]⟩
/-- Its cells. -/
def Bk.v (b : Bk) : Array Value := (b.l.map u8v).toArray

theorem Bk.size (b : Bk) : b.v.size = 512 := by simp [Bk.v, b.h]
theorem Bk.one (b : Bk) : b.v.all (·.oneCell') = true := Array.all_eq_true_iff_forall_mem.2 (fun v hv => u8v_cell b.l v (by simpa [Bk.v] using hv))
theorem u8v_inj {x y : UInt8} (h : u8v x = u8v y) : x = y := by
  unfold u8v at h
  simp only [Value.int.injEq, true_and] at h
  exact UInt8.toNat_inj.1 (by omega)
theorem map_u8v_inj : ∀ {a b : List UInt8}, a.map u8v = b.map u8v → a = b
  | [], [], _ => rfl
  | [], _ :: _, h => by simp at h
  | _ :: _, [], h => by simp at h
  | x :: a, y :: b, h => by
    simp only [List.map_cons, List.cons.injEq] at h
    rw [u8v_inj h.1, map_u8v_inj h.2]
theorem Bk.inj {a b : Bk} (h : a.v = b.v) : a = b := Bk.ext' (map_u8v_inj (by simpa [Bk.v] using h))

/-- What blocks are, one of them written. -/
def upd (f : Nat → Option Bk) (k : Nat) (b : Bk) : Nat → Option Bk := fun i => if i = k then some b else f i
/-- .. and writes, in their row. -/
def putL (f : Nat → Option Bk) (l : List (Nat × Bk)) : Nat → Option Bk := l.foldl (fun g p => upd g p.1 p.2) f
def no : Nat → Option Bk := fun _ => none
/-- What the writes make of the blocks. -/
def nwOf (l : List (Nat × Bk)) : Nat → Option Bk := putL no l
/-- f, but where g says something. -/
def over (f g : Nat → Option Bk) : Nat → Option Bk := fun i => match g i with | some b => some b | none => f i
/-- The writes that are kept. -/
def kept : List (Nat × Bk) → List Bool → List (Nat × Bk)
  | p :: ps, b :: bs => if b then p :: kept ps bs else kept ps bs
  | _, _ => []

theorem putL_nil (f : Nat → Option Bk) : putL f [] = f := rfl
theorem putL_cons (f : Nat → Option Bk) (p : Nat × Bk) (l : List (Nat × Bk)) : putL f (p :: l) = putL (upd f p.1 p.2) l := rfl
theorem putL_append (f : Nat → Option Bk) (l m : List (Nat × Bk)) : putL f (l ++ m) = putL (putL f l) m := List.foldl_append
theorem putL_snoc (f : Nat → Option Bk) (l : List (Nat × Bk)) (p : Nat × Bk) : putL f (l ++ [p]) = upd (putL f l) p.1 p.2 := putL_append f l [p]
theorem nwOf_snoc (l : List (Nat × Bk)) (p : Nat × Bk) : nwOf (l ++ [p]) = upd (nwOf l) p.1 p.2 := putL_snoc no l p
theorem over_upd (f g : Nat → Option Bk) (k : Nat) (b : Bk) : over f (upd g k b) = upd (over f g) k b := by
  funext i
  unfold over upd
  by_cases h : i = k
  · simp [h]
  · simp [h]
theorem over_no (f : Nat → Option Bk) : over f no = f := rfl
theorem over_putL (f g : Nat → Option Bk) : ∀ (l : List (Nat × Bk)), over f (putL g l) = putL (over f g) l := by
  intro l
  induction l generalizing g with
  | nil => rfl
  | cons p l ih => rw [putL_cons, ih, over_upd, ← putL_cons]
/-- What is read is what was written last, whether it waits or not. -/
theorem over_nwOf (f : Nat → Option Bk) (l : List (Nat × Bk)) : over f (nwOf l) = putL f l := by
  unfold nwOf
  rw [over_putL, over_no]

theorem kept_nil (l : List (Nat × Bk)) : kept l [] = [] := by cases l <;> rfl
theorem kept_none : kept [] = fun _ => [] := rfl
/-- The writes that are kept, up to the j-th one. -/
theorem kept_take (l : List (Nat × Bk)) (ks : List Bool) : ∀ j, j < l.length → j < ks.length → kept (l.take (j + 1)) (ks.take (j + 1)) = if ks.getD j false then kept (l.take j) (ks.take j) ++ [l.getD j (0, Bk.zero)] else kept (l.take j) (ks.take j) := by
  induction l generalizing ks with
  | nil => intro j h; simp at h
  | cons p l ih =>
    intro j h1 h2
    cases ks with
    | nil => simp at h2
    | cons b ks =>
      cases j with
      | zero => simp [kept]
      | succ j =>
        have := ih ks j (by simpa using h1) (by simpa using h2)
        rw [List.take_succ_cons, List.take_succ_cons, List.take_succ_cons, List.take_succ_cons]
        simp only [kept, List.getD_cons_succ]
        rw [this]
        cases b <;> cases ks.getD j false <;> simp
theorem kept_short (l : List (Nat × Bk)) (ks : List Bool) : kept (l.take (min ks.length l.length)) (ks.take (min ks.length l.length)) = kept l ks := by
  induction l generalizing ks with
  | nil => cases ks <;> rfl
  | cons p l ih =>
    cases ks with
    | nil => simp [kept]
    | cons b ks =>
      rw [List.length_cons, List.length_cons, Nat.add_min_add_right, List.take_succ_cons, List.take_succ_cons]
      simp only [kept]
      rw [ih]
theorem kept_length (l : List (Nat × Bk)) (ks : List Bool) : (kept l ks).length ≤ l.length := by
  induction l generalizing ks with
  | nil => simp [kept]
  | cons p l ih =>
    cases ks with
    | nil => simp [kept]
    | cons b ks =>
      have := ih ks
      simp only [kept]
      split <;> simp <;> omega
theorem kept_all (l : List (Nat × Bk)) : ∀ ks : List Bool, l.length ≤ ks.length → (∀ i, i < l.length → ks.getD i false = true) → kept l ks = l := by
  induction l with
  | nil => intro ks _ _; rfl
  | cons p l ih =>
    intro ks h1 h2
    cases ks with
    | nil => simp at h1
    | cons b ks =>
      have h0 := h2 0 (by simp)
      simp at h0
      subst h0
      simp only [kept, if_true]
      rw [ih ks (by simpa using h1) (fun i hi => by simpa using h2 (i + 1) (by simpa using hi))]

/-- A disk. (m: how many writes there have been at most.) -/
structure DS where
  n : Nat
  fl : Nat → Option Bk
  wt : List (Nat × Bk)
  lf : Nat
  kp : List Bool
  dd : Bool
  m : Nat

def DS.new (n : Nat) : DS := ⟨n, no, [], 0, [], false, 0⟩
def DS.live (s : DS) : Int := if s.dd then 51 else 0
def DS.has (s : DS) (k : Int) : Int := if s.dd then 51 else if k < 0 ∨ (s.n : Int) ≤ k then 1 else 0
def DS.at (s : DS) (k : Nat) : Bk := (putL s.fl s.wt k).getD Bk.zero
def DS.read (s : DS) (k : Int) : Bk × Int := if s.has k = 0 then (s.at k.toNat, 0) else (Bk.zero, s.has k)
/-- The power fails. -/
def DS.gone (s : DS) (ks : List Bool) : DS := { s with fl := putL s.fl (kept s.wt ks), wt := [], lf := 0, kp := [], dd := true }
def DS.fail (s : DS) (ks : List Bool) : DS × Int := if s.dd then (s, 51) else (s.gone ks, 0)
def DS.count (s : DS) : DS × Int := if s.lf = 0 then (s, 0) else if s.lf = 1 then (s.gone s.kp, 51) else ({ s with lf := s.lf - 1 }, 0)
def DS.add (s : DS) (k : Nat) (b : Bk) : DS := { s with wt := s.wt ++ [(k, b)], m := s.m + 1 }
def DS.write (s : DS) (k : Int) (b : Bk) : DS × Int := if s.has k = 0 then (s.add k.toNat b).count else (s, s.has k)
def DS.settle (s : DS) : DS := { s with fl := putL s.fl s.wt, wt := [] }
def DS.flush (s : DS) : DS × Int := if s.dd then (s, 51) else if s.lf = 1 then (s.gone s.kp, 51) else (s.count.1.settle, 0)
def DS.cut (s : DS) (k : Int) (ks : List Bool) : DS × Int := if s.dd then (s, 51) else if k < 0 then (s, 1) else ({ s with lf := k.toNat, kp := ks }, 0)
def DS.anew (s : DS) : DS := { s with dd := false }

theorem DS.has_dead {s : DS} (h : s.dd = true) (k : Int) : s.has k = 51 := by unfold DS.has; rw [h]; rfl
theorem DS.has_off {s : DS} (h : s.dd = false) {k : Int} (hk : k < 0 ∨ (s.n : Int) ≤ k) : s.has k = 1 := by unfold DS.has; rw [h, if_neg (by simp), if_pos hk]
theorem DS.has_on {s : DS} (h : s.dd = false) {k : Int} (h0 : 0 ≤ k) (h1 : k < (s.n : Int)) : s.has k = 0 := by unfold DS.has; rw [h, if_neg (by simp), if_neg (by omega)]
theorem DS.has_range (s : DS) (k : Int) : s.has k = 0 ∨ s.has k = 1 ∨ s.has k = 51 := by
  unfold DS.has
  by_cases h : s.dd = true
  · rw [if_pos h]; simp
  · rw [if_neg h]
    by_cases h2 : k < 0 ∨ (s.n : Int) ≤ k
    · rw [if_pos h2]; simp
    · rw [if_neg h2]; simp
end Go.Proofs.Ytnnhnkpbiilooaa
