/- A range over an iterator that steps on memory of its own caller's: the loop's word, for a body that always goes on. -/
import Derived.Test.YtahmpgaohjopeaaIter
namespace Go.Proofs.Ytahmpgaohjopeaa
open Go.RowKit Go.Shelf

section
variable {P : Program} {α : Type}

/-- Whatever is no cells, and lies from B on, lies as it lay. -/
def Keeps (B : Nat) (W W' : World) : Prop := ∀ k o, B ≤ k → W.heap[k]? = some o → o.isCells = false → W'.heap[k]? = some o

/-- The iterator's side: between two rounds I holds, and the loop's two blocks are as they were laid. -/
def Between (w : World) (o : Obj) (I : List α → World → Prop) (xs : List α) (W : World) : Prop :=
  I xs W ∧ W.heap[w.heap.size + 1]? = some o ∧ W.heap[w.heap.size]? = some (.deferred (some []))

/-- The loop's record. -/
def ldOf (fn : FuncId) (tmps : Array Value) (p : Tmp) (assign body : Code) (D : Nat) (st : LoopState) : Loop := { state := st, pending := none, fn, tmps, params := #[p], assign, body, defers := D }

theorem range_law {n : Nat} {g : Operand} {p : Tmp} {assign body : Code} {Q : Exit → Act → World → Prop} {a : Act} {w : World} (h1 : 1 ≤ n) {gf : Nat} {lb : Array Value}
    (hg : a.eval g = .func (.func gf) #[] lb) (eg : ∀ args w, (callFunc gf args).run P w = .ok (.enter gf args) w)
    (enc : α → Value) (I T : List α → World → Prop) (C : List α → α → Prop) (Kp : World → World → Prop) (a₁ : α → Act)
    (hI0 : ∀ o, I [] ((w.alloc (.deferred (some []))).alloc o))
    (hI : ∀ xs W k o o', I xs W → w.heap.size ≤ k → W.heap[k]? = some o → o.isCells = false → I xs (W.putObj k o'))
    (hKt : ∀ {A B C : World}, Kp A B → Kp B C → Kp A C)
    (hKb : ∀ W k o o', w.heap.size ≤ k → W.heap[k]? = some o → o.isCells = false → Kp W (W.putObj k o'))
    (hassign : ∀ (l : Nat) (x : α) (W : World) (K : Act → World → Prop), K (a₁ x) W →
      assign.wpIn (Fence.wide.inRound l) (n - 1 - 1) P (Exit.then K (fun _ _ _ => False)) { tmps := a.tmps.setIfInBounds p (enc x), defers := [] } W)
    (hbody : ∀ (l : Nat) (pre : List α) (x : α) (W : World), I pre W → C pre x →
      body.wpIn (Fence.wide.inRound l) (n - 1 - 1) P (fun e _ W' => e = .normal ∧ Keeps w.heap.size W W' ∧ Kp W W' ∧ I (pre ++ [x]) W') (a₁ x) W)
    (hseq : ∀ o : Obj, o.isCells = false →
      (∀ pre x W, Between w o I pre W → C pre x → YieldAt Fence.wide (n - 1 - 1) P (w.heap.size + 1) #[enc x] W fun e W' => e = .returned (.bool true) ∧ Between w o I (pre ++ [x]) W' ∧ Kp W W') →
      CallsIn Fence.wide (n - 1) P gf (#[.func (.yield (w.heap.size + 1)) #[] #[]] ++ lb) ((w.alloc (.deferred (some []))).alloc o) fun e W' => (∃ v, e = .returned v) ∧ ∃ xs, Between w o I xs W' ∧ T xs W')
    (hdone : ∀ xs W o o', T xs W → I xs W → W.heap[w.heap.size + 1]? = some o → o.isCells = false → W.heap[w.heap.size]? = some (.deferred (some [])) →
      Q .normal { a with defers := { target := .collected w.heap.size, args := #[] } :: a.defers } (W.putObj (w.heap.size + 1) o')) :
    (Code.rangeFunc g #[p] assign body).wpIn Fence.wide n P Q a w := by
  refine wpIn_rangeFunc fun fn hfn => ?_
  have hl0 : (Instr.enterLoop fn a.tmps #[p] assign body Fence.wide.round).run P w = .ok (w.heap.size + 1, [{ target := .collected w.heap.size, args := #[] }]) ((w.alloc (.deferred (some []))).alloc (.loop (ldOf fn a.tmps p assign body w.heap.size .ready))) := by
    rw [show Fence.wide.round = none from rfl, run_enterLoop_outer]
    rfl
  have q1 : (ldOf fn a.tmps p assign body w.heap.size .ready).state = .ready := rfl
  have call := hseq (.loop (ldOf fn a.tmps p assign body w.heap.size .ready)) rfl ?rounds
  case rounds =>
    rintro pre x W ⟨hi, hl, hd⟩ hc
    have hlt : w.heap.size + 1 < W.heap.size := (Array.getElem?_eq_some_iff.1 hl).1
    have hi' := hI _ _ _ _ (.loop (ldOf fn a.tmps p assign body w.heap.size .busy)) hi (Nat.le_succ _) hl rfl
    have kp1 := hKb W (w.heap.size + 1) _ (.loop (ldOf fn a.tmps p assign body w.heap.size .busy)) (Nat.le_succ _) hl rfl
    have hl' : (W.putObj (w.heap.size + 1) (.loop (ldOf fn a.tmps p assign body w.heap.size .busy))).heap[w.heap.size + 1]? = some (.loop (ldOf fn a.tmps p assign body w.heap.size .busy)) := World.putObj_heap_same hlt
    have hd' : (W.putObj (w.heap.size + 1) (.loop (ldOf fn a.tmps p assign body w.heap.size .busy))).heap[w.heap.size]? = some (.deferred (some [])) := (World.putObj_heap_other (Nat.ne_of_lt (Nat.lt_succ_self _))).trans hd
    have hb := run_beginRound (P := P) hl q1
    have hb' : (Instr.beginRound (w.heap.size + 1)).run P W = .ok () (W.putObj (w.heap.size + 1) (.loop (ldOf fn a.tmps p assign body w.heap.size .busy))) := hb
    refine ⟨fn, a.tmps.setIfInBounds p (enc x), assign, body, ?_, ?_⟩
    · have hy := run_yield (P := P) (args := #[enc x]) hl rfl
      simpa [ldOf] using hy
    · refine roundIn_of_wpIn hfn (hassign _ x W _ ⟨_, hb', ?_⟩)
      refine wpIn_mono (hbody _ pre x _ hi' hc) ?_
      rintro e a3 W3 ⟨rfl, hk, hp, hi3⟩
      have hl3 := hk _ _ (Nat.le_succ _) hl' rfl
      have hd3 := hk _ _ (Nat.le_refl _) hd' rfl
      have he := run_endRound (P := P) none hl3
      have he' : (Instr.endRound (w.heap.size + 1) none).run P W3 = .ok (.bool true) (W3.putObj (w.heap.size + 1) (.loop (ldOf fn a.tmps p assign body w.heap.size .ready))) := he
      refine ⟨_, _, he', rfl, ⟨hI _ _ _ _ _ hi3 (Nat.le_succ _) hl3 rfl, World.putObj_heap_same (Array.getElem?_eq_some_iff.1 hl3).1, ?_⟩, hKt (hKt kp1 hp) (hKb _ _ _ _ (Nat.le_succ _) hl3 rfl)⟩
      exact (World.putObj_heap_other (Nat.ne_of_lt (Nat.lt_succ_self _))).trans hd3
  generalize hW1 : (w.alloc (.deferred (some []))).alloc (.loop (ldOf fn a.tmps p assign body w.heap.size .ready)) = W1 at *
  have hres : (resolve a.eval (rangeCall g (w.heap.size + 1)) 0).run P W1 = .ok { target := .fn (.func gf) lb, args := #[.func (.yield (w.heap.size + 1)) #[] #[]] } W1 := by
    simp only [resolve, hg]
    simp [go_sem]
  have hinv : (invoke (.fn (.func gf) lb) #[.func (.yield (w.heap.size + 1)) #[] #[]]).run P W1 = .ok (.enter gf (#[.func (.yield (w.heap.size + 1)) #[] #[]] ++ lb)) W1 := by
    simp [invoke, go_sem, eg]
  refine ⟨_, _, _, _, _, gf, _, _, hl0, hres, fun _ _ => trivial, hinv, fun _ => h1, call.mono ?_⟩
  rintro e W2 ⟨⟨v, rfl⟩, xs, ⟨hi, hl, hd⟩, ht⟩
  exact ⟨none, _, run_endLoop (P := P) hl (by rw [q1]; simp), hdone xs W2 _ _ ht hi hl rfl hd⟩
end
end Go.Proofs.Ytahmpgaohjopeaa
