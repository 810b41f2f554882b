/- A part of the proof: contracts of the program's functions for every input. No conditions. -/
import Derived.Test.YthkcgengohoboaaGreatDoorGF
import Derived.Test.YthkcgengohoboaaGreatDoorGG
import Derived.Test.YthkcgengohoboaaGreatDoorGK
import Derived.Test.YthkcgengohoboaaGreatDoorGJ
set_option linter.all false
namespace Go.Proofs.YthkcgengohoboaaGreatDoor
open Go.RowKit Go.Sort Go.Rg
set_option maxRecDepth 100000
attribute [local go_sem] Oper.semAt_some
end Go.Proofs.YthkcgengohoboaaGreatDoor
namespace Go.Proofs.YthkcgengohoboaaGreatDoor
open Go.RowKit Go.Sort Go.Rg
set_option maxRecDepth 100000
def StM (b s : Nat) (vs : Nat → Value) (V WB WS : World) (l : List Oper) (a0 : Act) (listed : Array Bool) (a : Act) (w : World) : Prop :=
  AtSt l.toArray vs a0 listed a ∧ (on listed s = true → on listed b = true) ∧ w = if on listed s then WS else if on listed b then WB else V.drew
section
variable {l : List Oper} {a0 a : Act} {b s : Nat} {vs : Nat → Value} {V WB WS w : World} {listed : Array Bool} {i : Nat} {o : Oper}
theorem StM.start : StM b s vs V WB WS l a0 (Array.replicate l.length false) a0 V.drew := by
  have no : ∀ j, on (Array.replicate l.length false) j = false := fun j => by
    unfold on
    simp only [Array.getD_eq_getD_getElem?, Array.getElem?_replicate]
    split <;> simp
  refine ⟨⟨rfl, rfl, fun j o d hj => ?_, fun t _ => rfl⟩, (fun h => by rw [no] at h; cases h), by rw [no, no]; rfl⟩
  have := no j
  unfold on at this
  rw [this] at hj; cases hj
theorem StM.pure (hd : distFrom l = true) (ha : AtSt l.toArray vs a0 listed a) (hbs : on listed s = true → on listed b = true) (hw : w = if on listed s then WS else if on listed b then WB else V.drew) (ho : l[i]? = some o) (h1 : listed.getD i true = false) (ib : i ≠ b) (is : i ≠ s) :
    StM b s vs V WB WS l a0 (listed.setIfInBounds i true) (a.put o.dst (vs i)) w :=
  ⟨ha.put (by simpa using ho) h1 (dist_arr hd), by rw [on_set (Ne.symm is), on_set (Ne.symm ib)]; exact hbs, by rw [on_set (Ne.symm is), on_set (Ne.symm ib)]; exact hw⟩
theorem StM.stored (hd : distFrom l = true) (ha : AtSt l.toArray vs a0 listed a) (hw : w = if on listed s then WS else if on listed b then WB else V.drew) (hl : listed.size = l.length) (ho : l[s]? = some o) (h1 : listed.getD s true = false) (hn : o.dst = none) (hb : on listed b = true) :
    w = WB ∧ StM b s vs V WB WS l a0 (listed.setIfInBounds s true) a WS := by
  have hz : s < listed.size := by rw [hl]; exact (List.getElem?_eq_some_iff.1 ho).1
  rw [on_no h1, hb] at hw
  have := ha.put (i := s) (by simpa using ho) h1 (dist_arr hd)
  rw [hn] at this
  exact ⟨hw, this, fun _ => on_set_mono hb, by rw [on_self hz]; rfl⟩
end
def Book.more (B : Book) (t : Trial) : Book := ⟨B.boys, B.weeks, B.trials ++ [t]⟩
theorem err_false_ne (B : Book) : (B.err false != 0) = true := by
  unfold Book.err
  cases B.okB <;> rfl
theorem boy_of {B : Book} {boy : Int} (hb : inB boy 0 (B.boys.length - 1) = true) : ∃ (bn : Nat) (x : Boy), boy = (bn : Int) ∧ B.boys[bn]? = some x ∧ bn < B.boys.length := by
  simp only [inB, Bool.and_eq_true, decide_eq_true_eq] at hb
  obtain ⟨bn, rfl⟩ := Int.eq_ofNat_of_zero_le hb.1
  have hlt : bn < B.boys.length := by omega
  exact ⟨bn, B.boys[bn], rfl, List.getElem?_eq_getElem hlt, hlt⟩
end Go.Proofs.YthkcgengohoboaaGreatDoor
