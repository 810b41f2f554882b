import Derived.Test.YtbhgicggpkibeaaDoorVW6
import Derived.LoopTactic
set_option linter.all false
set_option linter.all false
namespace Go.Proofs.YtbhgicggpkibeaaDoor
open Go.RowKit Go.Sort
set_option maxRecDepth 100000

structure Trial where
  boy : Int
  week : Int
  note : Int
  sang : Int
  deriving Inhabited

def Trial.val (t : Trial) : Value := .agg #[.int .i64 t.boy, .int .i64 t.week, .int .i64 t.note, .int .i64 t.sang]

/-- trials that lie in memory, one behind the other -/
def TrialsAt (w : World) (b o : Nat) (l : List Trial) : Prop := b < w.heap.size ∧ ∀ i t, l[i]? = some t → w.cell? ⟨b, o + i * 4, none⟩ = some (.int .i64 t.boy) ∧ w.cell? ⟨b, o + i * 4 + 1, none⟩ = some (.int .i64 t.week) ∧ w.cell? ⟨b, o + i * 4 + 2, none⟩ = some (.int .i64 t.note) ∧ w.cell? ⟨b, o + i * 4 + 3, none⟩ = some (.int .i64 t.sang)

theorem TrialsAt.kept {w W : World} {b o : Nat} {l : List Trial} (h : TrialsAt w b o l) (k : Kept w W) : TrialsAt W b o l := by
  obtain ⟨hc, _, hz⟩ := bcell k
  refine ⟨Nat.lt_of_lt_of_le h.1 hz, fun i t hi => ?_⟩
  have := h.2 i t hi
  rw [hc _ _ h.1, hc _ _ h.1, hc _ _ h.1, hc _ _ h.1]
  exact this

def Told (P : Int → Prop) (w : World) (e : Ending) (w' : World) : Prop := ∃ r : Int, P r ∧ e = .returned (.int .i64 r) ∧ Kept w w'

def FirstP (l : List Trial) (f : Trial → Bool) (r : Int) : Prop := (0 ≤ r) ↔ l.any f = true

def TB (n0 n1 n2 n3 n4 loss : Int) (t : Trial) : Bool := beliesB n0 n1 n2 n3 n4 loss t.week t.note t.sang

set_option maxHeartbeats 1000000 in
theorem index_any (b o len cap bT oT capT : Nat) (k1 ts m : Value) (boy : Nat) (n0 n1 n2 n3 n4 loss : Int) (l : List Trial) (w : World)
   (hb : boy < len) (hl : len ≤ 4) (hc : w.cell? ⟨b, o + boy * 11 + 8, none⟩ = some (.int .i64 loss)) (hin : b < w.heap.size)
   (h1 : 0 ≤ n1 ∧ n1 ≤ 100) (h2 : 0 ≤ n2 ∧ n2 ≤ 100) (h3 : 0 ≤ n3 ∧ n3 ≤ 100) (h5 : 0 ≤ loss ∧ loss ≤ 100) (hT : TrialsAt w bT oT l) (hn : l.length ≤ 6) (hr : ∀ t, t ∈ l → 0 ≤ t.week ∧ t.week ≤ 100) :
   Calls Tryd.prog 176 #[.slice (some ⟨bT, oT, none⟩) l.length capT, .func (.func 163) #[.agg #[Value.slice (some ⟨b, o, none⟩) len cap, k1, ts, m, Value.int IntKind.i64 ↑boy, Value.int IntKind.i64 n0, Value.int IntKind.i64 n1, Value.int IntKind.i64 n2, Value.int IntKind.i64 n3, Value.int IntKind.i64 n4]] #[]] w (Told (FirstP l (TB n0 n1 n2 n3 n4 loss)) w) := by
  go_enter Tryd.func176, Tryd.ntmps176
  go_wp2_with fail
  go_loopw [8] (fun i W => ∃ k : Nat, k ≤ l.length ∧ i = .int .i64 k ∧ (∀ j t, j < k → l[j]? = some t → TB n0 n1 n2 n3 n4 loss t = false) ∧ Kept w W) (fun i W => l.length - (intOf i).toNat)
  case atStart => exact ⟨0, by omega, rfl, fun j t hj => by omega, kept_refl _⟩
  case round =>
    obtain ⟨k, hk, rfl, hno, hkW⟩ := hrel
    rename_i W
    have HNO := Lib.hid hno; clear hno
    by_cases hlt : k < l.length
    · have hget : l[k]? = some l[k] := List.getElem?_eq_getElem hlt
      have hmem : l[k] ∈ l := List.getElem_mem hlt
      generalize l[k] = t at *
      obtain ⟨c0, c1, c2, c3⟩ := (hT.kept hkW).2 k t hget
      have h4 := hr t hmem
      have hcW := ((bcell hkW).1 b (o + boy * 11 + 8) hin).trans hc
      have hinW := Nat.lt_of_lt_of_le hin (bcell hkW).2.2
      have HG := Lib.hid hget; clear hget
      have HC := Lib.hid hcW; clear hcW hc
      go_wp2_with fail
      refine (belies_any _ _ _ _ _ _ _ _ _ _ _ _ _ _ t.boy t.week t.note t.sang wr hb hl HC.out hinW h1 h2 h3 h4 h5).mono ?_
      rintro e w' ⟨rfl, hk2⟩
      have hkW2 := kept_trans hkW hk2
      have HB : TB n0 n1 n2 n3 n4 loss t = beliesB n0 n1 n2 n3 n4 loss t.week t.note t.sang := rfl
      rw [← HB]; clear HB
      rcases hv : TB n0 n1 n2 n3 n4 loss t with _ | _
      · have HV := Lib.hid hv; clear hv
        have HNEW : Hid (∀ (j : Nat) (t : Trial), j < k + 1 → l[j]? = some t → TB n0 n1 n2 n3 n4 loss t = false) := Lib.hid (by
          intro j t' hj hg
          by_cases e : j = k
          · subst e; rw [HG.out] at hg; cases hg; exact HV.out
          · exact HNO.out j t' (by omega) hg)
        go_wp2_with fail
        go_roundw
        case rel => exact ⟨k + 1, by omega, by go_num, HNEW.out, hkW2⟩
        case measure => simp [intOf]; omega
      · have HV := Lib.hid hv; clear hv
        have hkz : (0 : Int) ≤ k := by omega
        have HP : Hid (l.any (TB n0 n1 n2 n3 n4 loss) = true) := Lib.hid (List.any_eq_true.2 ⟨t, hmem, HV.out⟩)
        go_wp2_with fail
        go_ret
        exact ⟨k, (show FirstP _ _ _ from ⟨fun _ => HP.out, fun _ => hkz⟩), rfl, hkW2⟩
    · have hkl : k = l.length := by omega
      have HP : Hid (l.any (TB n0 n1 n2 n3 n4 loss) = false) := Lib.hid (by
        rw [List.any_eq_false]
        intro t ht
        obtain ⟨j, hj, rfl⟩ := List.getElem_of_mem ht
        rw [HNO.out j l[j] (by omega) (List.getElem?_eq_getElem hj)]; simp)
      have hd : decide ((k : Int) < (l.length : Int)) = false := by simp; omega
      have hlt2 : ¬ (k : Int) < l.length := by omega
      clear hkl
      go_wp2_with fail
      go_ret
      exact ⟨-1, (show FirstP _ _ _ from ⟨fun h => by omega, fun h => by rw [HP.out] at h; cases h⟩), rfl, hkW⟩
end Go.Proofs.YtbhgicggpkibeaaDoor
