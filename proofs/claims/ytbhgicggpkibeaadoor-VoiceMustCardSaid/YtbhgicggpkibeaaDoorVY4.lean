import Derived.Test.YtbhgicggpkibeaaDoorVY3
import Derived.Test.YtbhgicggpkibeaaDoorSTop
set_option linter.all false
set_option linter.all false
namespace Go.Proofs.YtbhgicggpkibeaaDoor
open Go.RowKit Go.Sort Go.Rg
set_option maxRecDepth 100000

def turnI (n b : Int) : Int := if n.tmod b < 0 then n.tmod b + b else n.tmod b
theorem turnI_lt (n b : Int) (hb : 1 ≤ b) : 0 ≤ turnI n b ∧ turnI n b < b := by
  obtain ⟨m1, m2⟩ := tmod_small n b hb
  unfold turnI
  split <;> omega
theorem turn_is (n b : Int) (hb : 1 ≤ b) (hb2 : b ≤ 1000) (w : World) : Calls Tryd.prog 7 #[.int .i64 n, .int .i64 b] w fun e w' => e = .returned (.int .i64 (turnI n b)) ∧ w = w' := by
  have hb0 : decide (b < 1) = false := by simp; omega
  have hbz : (b == 0) = false := by simp; omega
  obtain ⟨m1, m2⟩ := tmod_small n b hb
  by_cases hs : n.tmod b < 0
  · rw [show turnI n b = n.tmod b + b by simp [turnI, hs]]
    go_enter Tryd.func7, Tryd.ntmps7
    go_wp2_with fail
    all_goals go_ret
    all_goals first | exact ⟨rfl, rfl⟩ | (exfalso; omega)
  · rw [show turnI n b = n.tmod b by simp [turnI, hs]]
    go_enter Tryd.func7, Tryd.ntmps7
    go_wp2_with fail
    all_goals go_ret
    all_goals first | exact ⟨rfl, rfl⟩ | (exfalso; omega)

def wI (n : Nat) : List Nat → Nat → Int
  | [], _ => -1
  | x :: xs, k => if x = n then (k : Int) else wI n xs (k + 1)
theorem wI_cons (n x : Nat) (xs : List Nat) (k : Nat) : wI n (x :: xs) k = if x = n then (k : Int) else wI n xs (k + 1) := rfl
theorem wI_mem (n : Nat) : ∀ (l : List Nat) (k : Nat), 0 ≤ wI n l k ↔ n ∈ l
  | [], k => by simp [wI]
  | x :: xs, k => by
    unfold wI
    by_cases h : x = n
    · simp [h]
    · rw [if_neg h, wI_mem n xs (k + 1)]
      simp [h, Ne.symm h]
set_option maxHeartbeats 1000000 in
theorem where_is (v : Value) (l : List Nat) (n : Nat) (w : World) (h : ListAt w v l) (hl : l.length ≤ 4) :
    Calls Tryd.prog 12 #[v, .int .i64 (n : Int)] w fun e w' => e = .returned (.int .i64 (wI n l 0)) ∧ Kept w w' := by
  obtain ⟨p, cap, rfl⟩ := listAt_len h
  go_enter Tryd.func12, Tryd.ntmps12
  go_wp2_with fail
  go_loopw [5] (fun i W => ∃ k : Nat, k ≤ l.length ∧ i = .int .i64 k ∧ wI n l 0 = wI n (l.drop k) k ∧ Kept w W) (fun i W => l.length - (intOf i).toNat)
  case atStart => exact ⟨0, by omega, rfl, rfl, kept_refl _⟩
  case round =>
    obtain ⟨k, hk, rfl, hno, hkW⟩ := hrel
    by_cases hlt : k < l.length
    · have hltI : (k : Int) < l.length := by omega
      have hget : l[k]? = some l[k] := List.getElem?_eq_getElem hlt
      rw [List.drop_eq_getElem_cons hlt] at hno
      generalize l[k] = x at *
      rcases h.kept hkW with ⟨_, rfl⟩ | ⟨b, cap', e, hb, hc⟩
      · simp at hlt
      cases e
      replace hc := hc k x hget
      rw [wI_cons] at hno
      by_cases hxn : x = n
      · rw [if_pos hxn] at hno
        have HNO := Lib.hid hno; clear hno
        have hx1 : ((x : Int) == (n : Int)) = true := by simp; omega
        clear hxn hget
        go_wp2_with fail
        go_ret
        exact ⟨by rw [HNO.out]; rfl, hkW⟩
      · rw [if_neg hxn] at hno
        have HNO := Lib.hid hno; clear hno
        have hx1 : ((x : Int) == (n : Int)) = false := by simp; omega
        clear hxn hget
        go_wp2_with fail
        go_roundw
        case rel => exact ⟨k + 1, by omega, by go_num, HNO.out, hkW⟩
        case measure => simp [intOf]; omega
    · have hltI : ¬ (k : Int) < l.length := by omega
      rw [List.drop_of_length_le (by omega)] at hno
      have HNO := Lib.hid hno; clear hno
      go_wp2_with fail
      go_ret
      exact ⟨by rw [HNO.out]; rfl, hkW⟩
end Go.Proofs.YtbhgicggpkibeaaDoor
