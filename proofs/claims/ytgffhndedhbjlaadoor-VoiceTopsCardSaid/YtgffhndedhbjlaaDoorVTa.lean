/- A part of the proof: contracts of the program's functions for every input. No conditions. -/
import Derived.Test.YtgffhndedhbjlaaDoorVI
set_option linter.all false
set_option linter.all false
namespace Go.Proofs.YtgffhndedhbjlaaDoor
open Go.RowKit Go.Sort Go.Rg
set_option maxRecDepth 100000

/-- the highest note and the lowest one of the boy that numbers choose, as the program tells them -/
def tB (B : Book) (b : Int) : List (List Int) := B.truths b.toNat ((B.boys[b.toNat]?).getD default)
def tT (B : Book) (b w : Int) : Int × Int × Bool := spanOf (hiF B b.toNat w) (tB B b)
def tL (B : Book) (b : Int) : Int × Int × Bool := spanOf (fun n => (n.getD 0 0, true)) (tB B b)
def TopsSel (B : Book) (b w n : Int) : Nat → Prop
  | 0 => ¬ Can B ∨ (tT B b w).2.2 = false
  | 1 => (Can B ∧ (tT B b w).2.2 = true) ∧ (tT B b w).2.1 < n
  | 2 => (Can B ∧ (tT B b w).2.2 = true) ∧ ¬ (tT B b w).2.1 < n ∧ n < (tL B b).1
  | 3 => (Can B ∧ (tT B b w).2.2 = true) ∧ ¬ (tT B b w).2.1 < n ∧ ¬ n < (tL B b).1 ∧ n = (tT B b w).2.1
  | _ => (Can B ∧ (tT B b w).2.2 = true) ∧ ¬ (tT B b w).2.1 < n ∧ ¬ n < (tL B b).1 ∧ ¬ n = (tT B b w).2.1
theorem tops_sel (B : Book) (b w n : Int) : ∃ k, k < 5 ∧ TopsSel B b w n k := by
  by_cases h0 : Can B
  · cases h1 : (tT B b w).2.2 with
    | false => exact ⟨0, by omega, .inr h1⟩
    | true =>
      by_cases h2 : (tT B b w).2.1 < n
      · exact ⟨1, by omega, ⟨h0, h1⟩, h2⟩
      · by_cases h3 : n < (tL B b).1
        · exact ⟨2, by omega, ⟨h0, h1⟩, h2, h3⟩
        · by_cases h4 : n = (tT B b w).2.1
          · exact ⟨3, by omega, ⟨h0, h1⟩, h2, h3, h4⟩
          · exact ⟨4, by omega, ⟨h0, h1⟩, h2, h3, h4⟩
  · exact ⟨0, by omega, .inl h0⟩

set_option maxHeartbeats 4000000 in
theorem tops_false (p q : Option Addr) (cap capt : Nat) (B : Book) (n0 n1 n2 : Int) (W : World) (h : BookAt W p q cap capt B) (hg : Nothing W) (hok : B.okB = false) :
    Calls Tryd.prog 3 #[B.val p q cap capt, .agg #[.int .i64 n0, .int .i64 n1, .int .i64 n2]] W fun e C => e = .returned (.bool true) ∧ Kept W C := by
  have hk0 : Kept W ((W.alloc (Obj.cells #[.slice p B.boys.length cap, .int .i64 B.weeks, .slice q B.trials.length capt] 25)).alloc (Obj.cells #[.int .i64 n0, .int .i64 n1, .int .i64 n2] 26)) := kept_alloc (kept_alloc (kept_refl _) _) _
  have hcall := small_any p q cap capt B _ (h.kept hk0)
  rw [hok] at hcall
  unfold Book.val at hcall ⊢
  have HC := Lib.hid hcall; clear hcall
  go_enter Tryd.func3, Tryd.ntmps3
  go_wp2_with fail
  generalize (W.alloc (Obj.cells #[.slice p B.boys.length cap, .int .i64 B.weeks, .slice q B.trials.length capt] 25)).alloc (Obj.cells #[.int .i64 n0, .int .i64 n1, .int .i64 n2] 26) = W0 at *
  refine HC.out.mono ?_
  rintro e w2 ⟨rfl, hk2⟩
  have hk02 := kept_trans hk0 hk2
  have HS := Lib.hid (sung_is w2 (h.laid.kept hk02) (hg.kept hk02))
  go_wp2_with fail
  refine HS.out.mono ?_
  rintro e w3 ⟨rfl, hk3⟩
  go_wp2_with fail
  go_ret
  exact ⟨rfl, kept_trans hk02 hk3⟩
end Go.Proofs.YtgffhndedhbjlaaDoor
