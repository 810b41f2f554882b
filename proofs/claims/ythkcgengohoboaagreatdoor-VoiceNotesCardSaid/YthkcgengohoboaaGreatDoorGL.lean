/- Right, Check, Lowest, Breaks and Highest of package voice answer what decaniref02 answers: the law returns true for every book and numbers. The package-level variables voice.nothing and voice.bounds hold what their initialisers lay (tied). -/
import Derived.Test.YthkcgengohoboaaGreatDoorGJ
import Derived.Test.YthkcgengohoboaaGreatDoorGK
import Derived.Test.YthkcgengohoboaaGreatDoorGF
import Derived.Laws.StructEq
import Derived.Test.YthkcgengohoboaaGreatDoorGE
set_option linter.all false
set_option linter.all false
namespace Go.Proofs.YthkcgengohoboaaGreatDoor
open Go.RowKit Go.Sort Go.Rg
set_option maxRecDepth 100000

theorem err_false_ne (B : Book) : (B.err false != 0) = true := by
  unfold Book.err
  cases B.okB <;> rfl
theorem boy_of {B : Book} {boy : Int} (hb : inB boy 0 (B.boys.length - 1) = true) : ∃ (bn : Nat) (x : Boy), boy = (bn : Int) ∧ B.boys[bn]? = some x ∧ bn < B.boys.length := by
  simp only [inB, Bool.and_eq_true, decide_eq_true_eq] at hb
  obtain ⟨bn, rfl⟩ := Int.eq_ofNat_of_zero_le hb.1
  have hlt : bn < B.boys.length := by omega
  exact ⟨bn, B.boys[bn], rfl, List.getElem?_eq_getElem hlt, hlt⟩
theorem low_agree (p q : Option Addr) (cap capt : Nat) (B : Book) (boy : Int) (W : World) (h : BookAt W p q cap capt B) (hg : Nothing W) :
    ∃ lo hi er : Int, (∀ V, Kept W V → Calls Tryz.prog 12 #[B.val p q cap capt, .int .i64 boy] V fun e C => e = .returned (.tuple #[.agg #[.int .i64 lo, .int .i64 hi], .int .i64 er]) ∧ Kept V C) ∧ ∀ V, Kept W V → Calls Tryz.prog 13 #[B.val p q cap capt, .int .i64 boy] V fun e C => e = .returned (.tuple #[.agg #[.int .i64 lo, .int .i64 hi], .int .i64 er]) ∧ Kept V C := by
  cases hb : inB boy 0 (B.boys.length - 1) with
  | false =>
    refine ⟨0, 0, B.err false, fun V k => (lowest_e0 p q cap capt B boy V (h.kept k) (hg.kept k) hb).mono ?_, fun V k => rlow_bad p q cap capt B boy false _ V (h.kept k) hb rfl (err_false_ne B)⟩
    rintro e C ⟨err, rfl, hk, hc⟩
    refine ⟨?_, hk⟩
    rcases hc with ⟨rfl, ho⟩ | ⟨rfl, ho, -⟩
    · simp [Book.err, ho]
    · simp [Book.err, ho]
  | true =>
    cases hok : B.okB with
    | false =>
      refine ⟨0, 0, B.err true, fun V k => (lowest_e1 p q cap capt B boy V (h.kept k) (hg.kept k) hb hok).mono ?_, fun V k => rlow_bad p q cap capt B boy true _ V (h.kept k) hb rfl (by simp [Book.err, hok])⟩
      rintro e C ⟨err, rfl, hk, hc⟩
      refine ⟨?_, hk⟩
      rcases hc with ⟨rfl, ho⟩ | ⟨rfl, ho, -⟩
      · simp [Book.err, ho]
      · rw [hok] at ho; cases ho
    | true =>
      obtain ⟨bn, x, rfl, hx, hlt⟩ := boy_of hb
      by_cases hc : Can B
      · have hf := (fine_can hok).2 hc
        have hL : B.voices bn x 0 ≠ [] := fun e => hc bn x hx ((voices_nil hok).1 e)
        have hs := ends_span (f := fun n : List Int => (n.getD 0 0, true)) (l := B.truths bn x) (L := (B.voices bn x 0).map fun n => n.getD 0 0) (by simpa using hL) (fun v => by
          simp only [List.mem_map]
          constructor
          · rintro ⟨n, hn, rfl⟩; exact ⟨n, (voices_iff hok).1 hn, by simp, rfl⟩
          · rintro ⟨n, hn, -, rfl⟩; exact ⟨n, (voices_iff hok).2 hn, rfl⟩)
        refine ⟨_, _, 0, fun V k => (lowest_any p q cap capt B bn V (h.kept k) (hg.kept k) hok hlt).mono ?_, fun V k => rlow_good p q cap capt B bn x true V (h.kept k) hx hb hok hL (by simp [Book.err, hok, hf])⟩
        rintro e C ⟨lo, hi, err, rfl, hk, hr⟩
        refine ⟨?_, hk⟩
        rcases hr with ⟨rfl, -, x', hx', rfl, rfl⟩ | ⟨-, hn, -⟩
        · rw [hx] at hx'; cases hx'
          rw [hs]
        · exact absurd hc hn
      · have hf : B.fineB 0 = false := by
          cases hh : B.fineB 0 with
          | false => rfl
          | true => exact absurd ((fine_can hok).1 hh) hc
        refine ⟨0, 0, 22, fun V k => (lowest_any p q cap capt B bn V (h.kept k) (hg.kept k) hok hlt).mono ?_, fun V k => rlow_bad p q cap capt B bn true 22 V (h.kept k) hb (by simp [Book.err, hok, hf]) rfl⟩
        rintro e C ⟨lo, hi, err, rfl, hk, hr⟩
        refine ⟨?_, hk⟩
        rcases hr with ⟨-, hn, -⟩ | ⟨rfl, -, rfl, rfl⟩
        · exact absurd hn hc
        · rfl
theorem brk_agree (p q : Option Addr) (cap capt : Nat) (B : Book) (boy : Int) (W : World) (h : BookAt W p q cap capt B) (hg : Nothing W) :
    ∃ lo hi er : Int, (∀ V, Kept W V → Calls Tryz.prog 14 #[B.val p q cap capt, .int .i64 boy] V fun e C => e = .returned (.tuple #[.agg #[.int .i64 lo, .int .i64 hi], .int .i64 er]) ∧ Kept V C) ∧ ∀ V, Kept W V → Calls Tryz.prog 15 #[B.val p q cap capt, .int .i64 boy] V fun e C => e = .returned (.tuple #[.agg #[.int .i64 lo, .int .i64 hi], .int .i64 er]) ∧ Kept V C := by
  cases hb : inB boy 0 (B.boys.length - 1) with
  | false =>
    refine ⟨0, 0, B.err false, fun V k => (breaks_e0 p q cap capt B boy V (h.kept k) (hg.kept k) hb).mono ?_, fun V k => rbrk_bad p q cap capt B boy false _ V (h.kept k) hb rfl (err_false_ne B)⟩
    rintro e C ⟨err, rfl, hk, hc⟩
    refine ⟨?_, hk⟩
    rcases hc with ⟨rfl, ho⟩ | ⟨rfl, ho, -⟩
    · simp [Book.err, ho]
    · simp [Book.err, ho]
  | true =>
    cases hok : B.okB with
    | false =>
      refine ⟨0, 0, B.err true, fun V k => (breaks_e1 p q cap capt B boy V (h.kept k) (hg.kept k) hb hok).mono ?_, fun V k => rbrk_bad p q cap capt B boy true _ V (h.kept k) hb rfl (by simp [Book.err, hok])⟩
      rintro e C ⟨err, rfl, hk, hc⟩
      refine ⟨?_, hk⟩
      rcases hc with ⟨rfl, ho⟩ | ⟨rfl, ho, -⟩
      · simp [Book.err, ho]
      · rw [hok] at ho; cases ho
    | true =>
      obtain ⟨bn, x, rfl, hx, hlt⟩ := boy_of hb
      by_cases hc : Can B
      · have hf := (fine_can hok).2 hc
        have hL : B.voices bn x 0 ≠ [] := fun e => hc bn x hx ((voices_nil hok).1 e)
        have hs := ends_span (f := fun n : List Int => (n.getD 4 0, true)) (l := B.truths bn x) (L := (B.voices bn x 0).map fun n => n.getD 4 0) (by simpa using hL) (fun v => by
          simp only [List.mem_map]
          constructor
          · rintro ⟨n, hn, rfl⟩; exact ⟨n, (voices_iff hok).1 hn, by simp, rfl⟩
          · rintro ⟨n, hn, -, rfl⟩; exact ⟨n, (voices_iff hok).2 hn, rfl⟩)
        refine ⟨_, _, 0, fun V k => (breaks_any p q cap capt B bn V (h.kept k) (hg.kept k) hok hlt).mono ?_, fun V k => rbrk_good p q cap capt B bn x true V (h.kept k) hx hb hok hL (by simp [Book.err, hok, hf])⟩
        rintro e C ⟨lo, hi, err, rfl, hk, hr⟩
        refine ⟨?_, hk⟩
        rcases hr with ⟨rfl, -, x', hx', rfl, rfl⟩ | ⟨-, hn, -⟩
        · rw [hx] at hx'; cases hx'
          rw [hs]
        · exact absurd hc hn
      · have hf : B.fineB 0 = false := by
          cases hh : B.fineB 0 with
          | false => rfl
          | true => exact absurd ((fine_can hok).1 hh) hc
        refine ⟨0, 0, 22, fun V k => (breaks_any p q cap capt B bn V (h.kept k) (hg.kept k) hok hlt).mono ?_, fun V k => rbrk_bad p q cap capt B bn true 22 V (h.kept k) hb (by simp [Book.err, hok, hf]) rfl⟩
        rintro e C ⟨lo, hi, err, rfl, hk, hr⟩
        refine ⟨?_, hk⟩
        rcases hr with ⟨-, hn, -⟩ | ⟨rfl, -, rfl, rfl⟩
        · exact absurd hn hc
        · rfl
theorem right_agree (p q : Option Addr) (cap capt : Nat) (B : Book) (W : World) (h : BookAt W p q cap capt B) (hg : Nothing W) :
    ∃ (r : Bool) (er : Int), (∀ V, Kept W V → Calls Tryz.prog 8 #[B.val p q cap capt] V fun e C => e = .returned (.tuple #[.bool r, .int .i64 er]) ∧ Kept V C) ∧ ∀ V, Kept W V → Calls Tryz.prog 9 #[B.val p q cap capt] V fun e C => e = .returned (.tuple #[.bool r, .int .i64 er]) ∧ Kept V C := by
  cases hok : B.okB with
  | false => exact ⟨false, 20, fun V k => right_bad p q cap capt B V (h.kept k) hok, fun V k => rright_bad p q cap capt B V (h.kept k) hok⟩
  | true =>
    refine ⟨B.fineB 0, 0, fun V k => (right_any p q cap capt B V (h.kept k) (hg.kept k) hok).mono ?_, fun V k => rright_ok p q cap capt B V (h.kept k) hok⟩
    rintro e C ⟨r, rfl, hk, hr⟩
    refine ⟨?_, hk⟩
    rw [show r = B.fineB 0 from by rw [Bool.eq_iff_iff, hr, fine_can hok]]
theorem high_mem {B : Book} (hok : B.okB = true) {bn : Nat} {x : Boy} (hx : B.boys[bn]? = some x) (week v : Int) : v ∈ highL (B.voices bn x 0) x.ls week ↔ ∃ n ∈ B.truths bn x, (hiF B bn week n).2 = true ∧ (hiF B bn week n).1 = v := by
  have hl : lossOf B bn = x.ls := by unfold lossOf; rw [hx]; rfl
  unfold highL hiF
  rw [hl]
  simp only [List.mem_map, List.mem_filter, decide_eq_true_eq]
  constructor
  · rintro ⟨n, ⟨hn, hw⟩, rfl⟩; exact ⟨n, (voices_iff hok).1 hn, hw, rfl⟩
  · rintro ⟨n, hn, hw, rfl⟩; exact ⟨n, ⟨(voices_iff hok).2 hn, hw⟩, rfl⟩
theorem high_agree (p q : Option Addr) (cap capt : Nat) (B : Book) (boy week : Int) (W : World) (h : BookAt W p q cap capt B) (hg : Nothing W) :
    ∃ lo hi er : Int, (∀ V, Kept W V → Calls Tryz.prog 16 #[B.val p q cap capt, .int .i64 boy, .int .i64 week] V fun e C => e = .returned (.tuple #[.agg #[.int .i64 lo, .int .i64 hi], .int .i64 er]) ∧ Kept V C) ∧ ∀ V, Kept W V → Calls Tryz.prog 17 #[B.val p q cap capt, .int .i64 boy, .int .i64 week] V fun e C => e = .returned (.tuple #[.agg #[.int .i64 lo, .int .i64 hi], .int .i64 er]) ∧ Kept V C := by
  cases hb : inB boy 0 (B.boys.length - 1) with
  | false =>
    refine ⟨0, 0, B.err false, fun V k => (highest_e0 p q cap capt B boy week V (h.kept k) (hg.kept k) hb).mono ?_, fun V k => rhigh_bada p q cap capt B boy week _ V (h.kept k) hb rfl (err_false_ne B)⟩
    rintro e C ⟨err, rfl, hk, hc⟩
    refine ⟨?_, hk⟩
    rcases hc with ⟨rfl, ho⟩ | ⟨rfl, ho, -⟩
    · simp [Book.err, ho]
    · simp [Book.err, ho]
  | true =>
   cases hw : inB week 0 (wrap64 (B.weeks - 1)) with
   | false =>
    refine ⟨0, 0, B.err false, fun V k => (highest_e1 p q cap capt B boy week V (h.kept k) (hg.kept k) hb hw).mono ?_, fun V k => rhigh_badb p q cap capt B boy week _ V (h.kept k) hb hw rfl (err_false_ne B)⟩
    rintro e C ⟨err, rfl, hk, hc⟩
    refine ⟨?_, hk⟩
    rcases hc with ⟨rfl, ho⟩ | ⟨rfl, ho, -⟩
    · simp [Book.err, ho]
    · simp [Book.err, ho]
   | true =>
    cases hok : B.okB with
    | false =>
      refine ⟨0, 0, B.err true, fun V k => (highest_e2 p q cap capt B boy week V (h.kept k) (hg.kept k) hb hw hok).mono ?_, fun V k => rhigh_badc p q cap capt B boy week _ V (h.kept k) hb hw rfl (by simp [Book.err, hok])⟩
      rintro e C ⟨err, rfl, hk, hc⟩
      refine ⟨?_, hk⟩
      rcases hc with ⟨rfl, ho⟩ | ⟨rfl, ho, -⟩
      · simp [Book.err, ho]
      · rw [hok] at ho; cases ho
    | true =>
      obtain ⟨bn, x, rfl, hx, hlt⟩ := boy_of hb
      obtain ⟨⟨-, -, q3, q4, -⟩, -, -⟩ := okB_boys hok
      have hwk : 0 ≤ week ∧ week < B.weeks := by
        have e := IntWalk.wrap64_in (B.weeks - 1) (by omega)
        simp only [inB, Bool.and_eq_true, decide_eq_true_eq, e] at hw
        omega
      by_cases hc : Can B
      · have hf := (fine_can hok).2 hc
        have hL : B.voices bn x 0 ≠ [] := fun e => hc bn x hx ((voices_nil hok).1 e)
        refine ⟨_, _, _, fun V k => (highest_all p q cap capt B bn week V (h.kept k) (hg.kept k) hok hlt hwk).mono ?_, fun V k => rhigh_good p q cap capt B bn x week V (h.kept k) hx hb hw (by omega) hok hL (by simp [Book.err, hok, hf])⟩
        rintro e C ⟨lo, hi, err, rfl, hk, hr⟩
        refine ⟨?_, hk⟩
        rcases hr with ⟨-, x', fd, hx', hsp, rfl⟩ | ⟨-, hn, -⟩
        · rw [hx] at hx'; cases hx'
          unfold highSpan
          by_cases hH : highL (B.voices bn x 0) x.ls week = []
          · rw [if_pos hH]
            have hno := spanOf_none (hiF B bn week) (B.truths bn x) (fun n hn => by
              cases hh : (hiF B bn week n).2 with
              | false => rfl
              | true =>
                have := (high_mem hok hx week _).2 ⟨n, hn, hh, rfl⟩
                rw [hH] at this; cases this)
            rw [hno] at hsp
            cases hsp
            rfl
          · rw [if_neg hH]
            have hs := ends_span hH (high_mem hok hx week)
            rw [hs] at hsp
            cases hsp
            rfl
        · exact absurd hc hn
      · have hf : B.fineB 0 = false := by
          cases hh : B.fineB 0 with
          | false => rfl
          | true => exact absurd ((fine_can hok).1 hh) hc
        refine ⟨0, 0, 22, fun V k => (highest_all p q cap capt B bn week V (h.kept k) (hg.kept k) hok hlt hwk).mono ?_, fun V k => rhigh_badc p q cap capt B bn week 22 V (h.kept k) hb hw (by simp [Book.err, hok, hf]) rfl⟩
        rintro e C ⟨lo, hi, err, rfl, hk, hr⟩
        refine ⟨?_, hk⟩
        rcases hr with ⟨hn, -⟩ | ⟨rfl, -, rfl, rfl⟩
        · exact absurd hn hc
        · rfl
end Go.Proofs.YthkcgengohoboaaGreatDoor
set_option linter.all false
namespace Go.Proofs.YthkcgengohoboaaGreatDoor
open Go.RowKit Go.Sort Go.Rg
set_option maxRecDepth 100000
/-- two spans, compared -/
theorem eqSpan (a b c d : Int) (w : World) : (Op.equalIn 10000 32 (.agg #[.int .i64 a, .int .i64 b]) (.agg #[.int .i64 c, .int .i64 d])).run Tryz.prog w = .ok (a == c && b == d) w := by
  have u3 := Tryz.underlying3
  have hS : Tryz.prog.underlying 32 = some (.struct (Tryz.prog.fieldsOf 32)) := by kernel_rfl
  have hp : Tryz.prog.stoodInHeld 32 = false := by kernel_rfl
  rw [show (10000 : Nat) = 9999 + 1 from rfl, run_equalIn_agg w 9999 32 _ _ hS hp]
  simp only [Program.fieldsOf, Tryz.underlying32]
  go_simp
  by_cases h1 : a = c <;> by_cases h2 : b = d <;> simp [h1, h2]
theorem eqSpan_same (a b : Int) (w : World) : (Op.equalIn 10000 32 (.agg #[.int .i64 a, .int .i64 b]) (.agg #[.int .i64 a, .int .i64 b])).run Tryz.prog w = .ok true w := by
  rw [eqSpan]; simp
end Go.Proofs.YthkcgengohoboaaGreatDoor
set_option linter.all false
namespace Go.Proofs.YthkcgengohoboaaGreatDoor
open Go.RowKit Go.Sort Go.Rg
set_option maxRecDepth 100000
attribute [local go_sem] eqSpan_same

theorem cell_set_nb {W : World} {b b' o o' : Nat} {u : Value} (h : b' ≠ b) : (W.setCell ⟨b, o, none⟩ u).cell? ⟨b', o', none⟩ = W.cell? ⟨b', o', none⟩ :=
  World.cell?_of_block (a := ⟨b', o', none⟩) (Below.heap_setCell _ _ _ _ h)
set_option maxHeartbeats 16000000 in
theorem notes_all (p q : Option Addr) (cap capt : Nat) (B : Book) (n0 n1 : Int) (W : World) (h : BookAt W p q cap capt B) (hg : Nothing W) :
    Calls Tryz.prog 3 #[B.val p q cap capt, .agg #[.int .i64 n0, .int .i64 n1]] W fun e C => e = .returned (.bool true) ∧ Kept W C := by
  obtain ⟨r, er, hP1, hR1⟩ := right_agree p q cap capt B W h hg
  obtain ⟨l0, l1, el, hP2, hR2⟩ := low_agree p q cap capt B n0 W h hg
  obtain ⟨k0, k1, ek, hP3, hR3⟩ := brk_agree p q cap capt B n0 W h hg
  obtain ⟨g0, g1, eg, hP4, hR4⟩ := high_agree p q cap capt B n0 n1 W h hg
  unfold Book.val at hP1 hR1 hP2 hR2 hP3 hR3 hP4 hR4 ⊢
  have HP1 := Lib.hid hP1; clear hP1
  have HR1 := Lib.hid hR1; clear hR1
  have HP2 := Lib.hid hP2; clear hP2
  have HR2 := Lib.hid hR2; clear hR2
  have HP3 := Lib.hid hP3; clear hP3
  have HR3 := Lib.hid hR3; clear hR3
  have HP4 := Lib.hid hP4; clear hP4
  have HR4 := Lib.hid hR4; clear hR4
  have HB := Lib.hid h; clear h
  have HG := Lib.hid hg; clear hg
  have hk : Kept W ((W.alloc (Obj.cells #[.slice p B.boys.length cap, .int .i64 B.weeks, .slice q B.trials.length capt] 25)).alloc (Obj.cells #[.int .i64 n0, .int .i64 n1] 26)) := kept_alloc (kept_alloc (kept_refl _) _) _
  have a0 : ((W.alloc (Obj.cells #[.slice p B.boys.length cap, .int .i64 B.weeks, .slice q B.trials.length capt] 25)).alloc (Obj.cells #[.int .i64 n0, .int .i64 n1] 26)).cell? ⟨W.heap.size, 0, none⟩ = some (.slice p B.boys.length cap) := by go_simp
  have a1 : ((W.alloc (Obj.cells #[.slice p B.boys.length cap, .int .i64 B.weeks, .slice q B.trials.length capt] 25)).alloc (Obj.cells #[.int .i64 n0, .int .i64 n1] 26)).cell? ⟨W.heap.size, 1, none⟩ = some (.int .i64 B.weeks) := by go_simp
  have a2 : ((W.alloc (Obj.cells #[.slice p B.boys.length cap, .int .i64 B.weeks, .slice q B.trials.length capt] 25)).alloc (Obj.cells #[.int .i64 n0, .int .i64 n1] 26)).cell? ⟨W.heap.size, 2, none⟩ = some (.slice q B.trials.length capt) := by go_simp
  have b0 : ((W.alloc (Obj.cells #[.slice p B.boys.length cap, .int .i64 B.weeks, .slice q B.trials.length capt] 25)).alloc (Obj.cells #[.int .i64 n0, .int .i64 n1] 26)).cell? ⟨W.heap.size + 1, 0, none⟩ = some (.int .i64 n0) := by go_simp
  have b1 : ((W.alloc (Obj.cells #[.slice p B.boys.length cap, .int .i64 B.weeks, .slice q B.trials.length capt] 25)).alloc (Obj.cells #[.int .i64 n0, .int .i64 n1] 26)).cell? ⟨W.heap.size + 1, 1, none⟩ = some (.int .i64 n1) := by go_simp
  have zr : (r != r) = false := by simp
  have ze : (er != er) = false := by simp
  have zl : (el != el) = false := by simp
  have zk' : (ek != ek) = false := by simp
  have zg : (eg == eg) = true := by simp
  go_enter Tryz.func3, Tryz.ntmps3
  go_wp2_with fail
  generalize ((W.alloc (Obj.cells #[.slice p B.boys.length cap, .int .i64 B.weeks, .slice q B.trials.length capt] 25)).alloc (Obj.cells #[.int .i64 n0, .int .i64 n1] 26)) = W0 at *
  have hz := Go.Ai.lt_of_cell a0
  have hzb := Go.Ai.lt_of_cell b0
  refine (HP1.out W0 hk).mono ?_
  rintro e w1 ⟨rfl, hk'⟩
  replace a0 := kcell hk' a0
  replace a1 := kcell hk' a1
  replace a2 := kcell hk' a2
  replace b0 := kcell hk' b0
  replace b1 := kcell hk' b1
  replace hk := kept_trans hk hk'
  clear hk'
  have hz := Go.Ai.lt_of_cell a0
  have hzb := Go.Ai.lt_of_cell b0
  go_wp2_with fail
  refine (HR1.out w1 hk).mono ?_
  rintro e w2 ⟨rfl, hk'⟩
  replace a0 := kcell hk' a0
  replace a1 := kcell hk' a1
  replace a2 := kcell hk' a2
  replace b0 := kcell hk' b0
  replace b1 := kcell hk' b1
  replace hk := kept_trans hk hk'
  clear hk'
  have hz := Go.Ai.lt_of_cell a0
  have hzb := Go.Ai.lt_of_cell b0
  go_wp2_with fail
  have e0 := cell_regrown a0
  have e1 := cell_regrown a1
  have e2 := cell_regrown a2
  have hc1 := fun d os => Calls.regrown_of (check_any p q cap capt B (grow (redrawn w2 d) os) ((HB.out.kept hk).kept (below_regrown w2 d os)))
  have hc2 := fun d os => Calls.regrown_of (rcheck_any p q cap capt B (grow (redrawn w2 d) os) ((HB.out.kept hk).kept (below_regrown w2 d os)))
  unfold Book.val at hc1 hc2
  generalize (if B.okB = true then (0 : Int) else 20) = ck at hc1 hc2
  have H1 := Lib.hid hc1
  have H2 := Lib.hid hc2
  clear hc1 hc2
  have zk : (ck != ck) = false := by simp
  refine wp_region_quiet_below (by kernel_rfl) (by kernel_rfl) ?_
  repeat (any_goals (first | go_big_quiet_skip | quiet_step (first | with_reducible exact H1.out _ _ | with_reducible exact H2.out _ _)))
  refine wpQuiet_nil ?_
  intro _ hw'
  obtain ⟨⟨dq, osq⟩, hw''⟩ := hw'
  subst hw''
  have hk' := below_regrown w2 dq osq
  replace a0 := kcell hk' a0
  replace a1 := kcell hk' a1
  replace a2 := kcell hk' a2
  replace b0 := kcell hk' b0
  replace b1 := kcell hk' b1
  replace hk := kept_trans hk hk'
  clear hk' e0 e1 e2 H1 H2
  generalize grow (redrawn w2 dq) osq = wq at *
  have hz := Go.Ai.lt_of_cell a0
  have hzb := Go.Ai.lt_of_cell b0
  go_wp2_with fail
  refine (HP2.out wq hk).mono ?_
  rintro e w3 ⟨rfl, hk'⟩
  replace a0 := kcell hk' a0
  replace a1 := kcell hk' a1
  replace a2 := kcell hk' a2
  replace b0 := kcell hk' b0
  replace b1 := kcell hk' b1
  replace hk := kept_trans hk hk'
  clear hk'
  have hz := Go.Ai.lt_of_cell a0
  have hzb := Go.Ai.lt_of_cell b0
  have ha : Kept w3 (w3.alloc (Obj.cells #[.int .i64 l0, .int .i64 l1] 32)) := kept_alloc (kept_refl _) _
  have c0 : (w3.alloc (Obj.cells #[.int .i64 l0, .int .i64 l1] 32)).cell? ⟨w3.heap.size, 0, none⟩ = some (.int .i64 l0) := by go_simp
  have c1 : (w3.alloc (Obj.cells #[.int .i64 l0, .int .i64 l1] 32)).cell? ⟨w3.heap.size, 1, none⟩ = some (.int .i64 l1) := by go_simp
  have cf0 : (w3.alloc (Obj.cells #[.int .i64 l0, .int .i64 l1] 32)).frozen? ⟨w3.heap.size, 0, none⟩ = false := by go_simp
  have cf1 : (w3.alloc (Obj.cells #[.int .i64 l0, .int .i64 l1] 32)).frozen? ⟨w3.heap.size, 1, none⟩ = false := by go_simp
  have cz : W.heap.size ≤ w3.heap.size := hk.size
  have cy : w3.heap.size ≠ W.heap.size ∧ w3.heap.size ≠ W.heap.size + 1 := ⟨by omega, by omega⟩
  replace a0 := kcell ha a0
  replace a1 := kcell ha a1
  replace a2 := kcell ha a2
  replace b0 := kcell ha b0
  replace b1 := kcell ha b1
  replace hk := kept_trans hk ha
  go_wp2_with fail
  generalize (w3.alloc (Obj.cells #[.int .i64 l0, .int .i64 l1] 32)) = v1 at *
  generalize w3.heap.size = bc at *
  refine (HR2.out v1 hk).mono ?_
  rintro e w4 ⟨rfl, hk'⟩
  replace cf0 := ((kturns hk' (fun _ => False)).frozen (Go.Ai.lt_of_cell c0) (fun h => h)).trans cf0
  replace cf1 := ((kturns hk' (fun _ => False)).frozen (Go.Ai.lt_of_cell c0) (fun h => h)).trans cf1
  replace a0 := kcell hk' a0
  replace a1 := kcell hk' a1
  replace a2 := kcell hk' a2
  replace b0 := kcell hk' b0
  replace b1 := kcell hk' b1
  replace c0 := kcell hk' c0
  replace c1 := kcell hk' c1
  replace hk := kept_trans hk hk'
  clear hk'
  have hz := Go.Ai.lt_of_cell a0
  have hzb := Go.Ai.lt_of_cell b0
  have hzc := Go.Ai.lt_of_cell c0
  have ha : Kept w4 (w4.alloc (Obj.cells #[.int .i64 l0, .int .i64 l1] 32)) := kept_alloc (kept_refl _) _
  have d0 : (w4.alloc (Obj.cells #[.int .i64 l0, .int .i64 l1] 32)).cell? ⟨w4.heap.size, 0, none⟩ = some (.int .i64 l0) := by go_simp
  have d1 : (w4.alloc (Obj.cells #[.int .i64 l0, .int .i64 l1] 32)).cell? ⟨w4.heap.size, 1, none⟩ = some (.int .i64 l1) := by go_simp
  have df0 : (w4.alloc (Obj.cells #[.int .i64 l0, .int .i64 l1] 32)).frozen? ⟨w4.heap.size, 0, none⟩ = false := by go_simp
  have df1 : (w4.alloc (Obj.cells #[.int .i64 l0, .int .i64 l1] 32)).frozen? ⟨w4.heap.size, 1, none⟩ = false := by go_simp
  have dz : W.heap.size ≤ w4.heap.size := hk.size
  have dy : w4.heap.size ≠ W.heap.size ∧ w4.heap.size ≠ W.heap.size + 1 := ⟨by omega, by omega⟩
  have dcy : w4.heap.size ≠ bc := by omega
  replace cf0 := ((kturns ha (fun _ => False)).frozen (Go.Ai.lt_of_cell c0) (fun h => h)).trans cf0
  replace cf1 := ((kturns ha (fun _ => False)).frozen (Go.Ai.lt_of_cell c0) (fun h => h)).trans cf1
  replace a0 := kcell ha a0
  replace a1 := kcell ha a1
  replace a2 := kcell ha a2
  replace b0 := kcell ha b0
  replace b1 := kcell ha b1
  replace c0 := kcell ha c0
  replace c1 := kcell ha c1
  replace hk := kept_trans hk ha
  clear hz hzb hzc
  have hz := Go.Ai.lt_of_cell a0
  have hzb := Go.Ai.lt_of_cell b0
  go_wp2_with fail
  generalize (w4.alloc (Obj.cells #[.int .i64 l0, .int .i64 l1] 32)) = v2 at *
  generalize w4.heap.size = bd at *
  refine (HP3.out v2 hk).mono ?_
  rintro e w5 ⟨rfl, hk'⟩
  replace cf0 := ((kturns hk' (fun _ => False)).frozen (Go.Ai.lt_of_cell c0) (fun h => h)).trans cf0
  replace cf1 := ((kturns hk' (fun _ => False)).frozen (Go.Ai.lt_of_cell c0) (fun h => h)).trans cf1
  replace df0 := ((kturns hk' (fun _ => False)).frozen (Go.Ai.lt_of_cell d0) (fun h => h)).trans df0
  replace df1 := ((kturns hk' (fun _ => False)).frozen (Go.Ai.lt_of_cell d0) (fun h => h)).trans df1
  replace a0 := kcell hk' a0
  replace a1 := kcell hk' a1
  replace a2 := kcell hk' a2
  replace b0 := kcell hk' b0
  replace b1 := kcell hk' b1
  replace c0 := kcell hk' c0
  replace c1 := kcell hk' c1
  replace d0 := kcell hk' d0
  replace d1 := kcell hk' d1
  replace hk := kept_trans hk hk'
  clear hk'
  have hz := Go.Ai.lt_of_cell a0
  have hzb := Go.Ai.lt_of_cell b0
  have hzc := Go.Ai.lt_of_cell c0
  have hzd := Go.Ai.lt_of_cell d0
  go_wp2_with fail
  have hs : Kept W ((w5.setCell ⟨bc, 0, none⟩ (.int .i64 k0)).setCell ⟨bc, 1, none⟩ (.int .i64 k1)) := Below.setCell (p := ⟨bc, 1, none⟩) (Below.setCell (p := ⟨bc, 0, none⟩) hk cz _) cz _
  replace a0 := (cell_set_nb (W := w5.setCell ⟨bc, 0, none⟩ (.int .i64 k0)) (b := bc) (u := .int .i64 k1) (o := 1) (by omega)).trans ((cell_set_nb (W := w5) (b := bc) (u := .int .i64 k0) (o := 0) (by omega)).trans a0)
  replace a1 := (cell_set_nb (W := w5.setCell ⟨bc, 0, none⟩ (.int .i64 k0)) (b := bc) (u := .int .i64 k1) (o := 1) (by omega)).trans ((cell_set_nb (W := w5) (b := bc) (u := .int .i64 k0) (o := 0) (by omega)).trans a1)
  replace a2 := (cell_set_nb (W := w5.setCell ⟨bc, 0, none⟩ (.int .i64 k0)) (b := bc) (u := .int .i64 k1) (o := 1) (by omega)).trans ((cell_set_nb (W := w5) (b := bc) (u := .int .i64 k0) (o := 0) (by omega)).trans a2)
  replace b0 := (cell_set_nb (W := w5.setCell ⟨bc, 0, none⟩ (.int .i64 k0)) (b := bc) (u := .int .i64 k1) (o := 1) (by omega)).trans ((cell_set_nb (W := w5) (b := bc) (u := .int .i64 k0) (o := 0) (by omega)).trans b0)
  replace b1 := (cell_set_nb (W := w5.setCell ⟨bc, 0, none⟩ (.int .i64 k0)) (b := bc) (u := .int .i64 k1) (o := 1) (by omega)).trans ((cell_set_nb (W := w5) (b := bc) (u := .int .i64 k0) (o := 0) (by omega)).trans b1)
  replace d0 := (cell_set_nb (W := w5.setCell ⟨bc, 0, none⟩ (.int .i64 k0)) (b := bc) (u := .int .i64 k1) (o := 1) (by omega)).trans ((cell_set_nb (W := w5) (b := bc) (u := .int .i64 k0) (o := 0) (by omega)).trans d0)
  replace d1 := (cell_set_nb (W := w5.setCell ⟨bc, 0, none⟩ (.int .i64 k0)) (b := bc) (u := .int .i64 k1) (o := 1) (by omega)).trans ((cell_set_nb (W := w5) (b := bc) (u := .int .i64 k0) (o := 0) (by omega)).trans d1)
  replace c0 : ((w5.setCell ⟨bc, 0, none⟩ (.int .i64 k0)).setCell ⟨bc, 1, none⟩ (.int .i64 k1)).cell? ⟨bc, 0, none⟩ = some (.int .i64 k0) := (cell_set_ne (by omega)).trans (cell_set_eq c0)
  replace c1 : ((w5.setCell ⟨bc, 0, none⟩ (.int .i64 k0)).setCell ⟨bc, 1, none⟩ (.int .i64 k1)).cell? ⟨bc, 1, none⟩ = some (.int .i64 k1) := cell_set_eq ((cell_set_ne (by omega)).trans c1)
  replace cf0 : ((w5.setCell ⟨bc, 0, none⟩ (.int .i64 k0)).setCell ⟨bc, 1, none⟩ (.int .i64 k1)).frozen? ⟨bc, 0, none⟩ = false := (World.frozen?_setCell _ _ _ _).trans ((World.frozen?_setCell _ _ _ _).trans cf0)
  replace cf1 : ((w5.setCell ⟨bc, 0, none⟩ (.int .i64 k0)).setCell ⟨bc, 1, none⟩ (.int .i64 k1)).frozen? ⟨bc, 1, none⟩ = false := (World.frozen?_setCell _ _ _ _).trans ((World.frozen?_setCell _ _ _ _).trans cf1)
  replace df0 : ((w5.setCell ⟨bc, 0, none⟩ (.int .i64 k0)).setCell ⟨bc, 1, none⟩ (.int .i64 k1)).frozen? ⟨bd, 0, none⟩ = false := (World.frozen?_setCell _ _ _ _).trans ((World.frozen?_setCell _ _ _ _).trans df0)
  replace df1 : ((w5.setCell ⟨bc, 0, none⟩ (.int .i64 k0)).setCell ⟨bc, 1, none⟩ (.int .i64 k1)).frozen? ⟨bd, 1, none⟩ = false := (World.frozen?_setCell _ _ _ _).trans ((World.frozen?_setCell _ _ _ _).trans df1)
  replace hk := hs
  clear hs
  generalize ((w5.setCell ⟨bc, 0, none⟩ (.int .i64 k0)).setCell ⟨bc, 1, none⟩ (.int .i64 k1)) = v3 at *
  have hz := Go.Ai.lt_of_cell a0
  have hzb := Go.Ai.lt_of_cell b0
  have hzc := Go.Ai.lt_of_cell c0
  have hzd := Go.Ai.lt_of_cell d0
  go_wp2_with fail
  refine (HR3.out v3 hk).mono ?_
  rintro e w6 ⟨rfl, hk'⟩
  replace cf0 := ((kturns hk' (fun _ => False)).frozen (Go.Ai.lt_of_cell c0) (fun h => h)).trans cf0
  replace cf1 := ((kturns hk' (fun _ => False)).frozen (Go.Ai.lt_of_cell c0) (fun h => h)).trans cf1
  replace df0 := ((kturns hk' (fun _ => False)).frozen (Go.Ai.lt_of_cell d0) (fun h => h)).trans df0
  replace df1 := ((kturns hk' (fun _ => False)).frozen (Go.Ai.lt_of_cell d0) (fun h => h)).trans df1
  replace a0 := kcell hk' a0
  replace a1 := kcell hk' a1
  replace a2 := kcell hk' a2
  replace b0 := kcell hk' b0
  replace b1 := kcell hk' b1
  replace c0 := kcell hk' c0
  replace c1 := kcell hk' c1
  replace d0 := kcell hk' d0
  replace d1 := kcell hk' d1
  replace hk := kept_trans hk hk'
  clear hk'
  have hz := Go.Ai.lt_of_cell a0
  have hzb := Go.Ai.lt_of_cell b0
  have hzc := Go.Ai.lt_of_cell c0
  have hzd := Go.Ai.lt_of_cell d0
  go_wp2_with fail
  have hs : Kept W ((w6.setCell ⟨bd, 0, none⟩ (.int .i64 k0)).setCell ⟨bd, 1, none⟩ (.int .i64 k1)) := Below.setCell (p := ⟨bd, 1, none⟩) (Below.setCell (p := ⟨bd, 0, none⟩) hk dz _) dz _
  replace a0 := (cell_set_nb (W := w6.setCell ⟨bd, 0, none⟩ (.int .i64 k0)) (b := bd) (u := .int .i64 k1) (o := 1) (by omega)).trans ((cell_set_nb (W := w6) (b := bd) (u := .int .i64 k0) (o := 0) (by omega)).trans a0)
  replace a1 := (cell_set_nb (W := w6.setCell ⟨bd, 0, none⟩ (.int .i64 k0)) (b := bd) (u := .int .i64 k1) (o := 1) (by omega)).trans ((cell_set_nb (W := w6) (b := bd) (u := .int .i64 k0) (o := 0) (by omega)).trans a1)
  replace a2 := (cell_set_nb (W := w6.setCell ⟨bd, 0, none⟩ (.int .i64 k0)) (b := bd) (u := .int .i64 k1) (o := 1) (by omega)).trans ((cell_set_nb (W := w6) (b := bd) (u := .int .i64 k0) (o := 0) (by omega)).trans a2)
  replace b0 := (cell_set_nb (W := w6.setCell ⟨bd, 0, none⟩ (.int .i64 k0)) (b := bd) (u := .int .i64 k1) (o := 1) (by omega)).trans ((cell_set_nb (W := w6) (b := bd) (u := .int .i64 k0) (o := 0) (by omega)).trans b0)
  replace b1 := (cell_set_nb (W := w6.setCell ⟨bd, 0, none⟩ (.int .i64 k0)) (b := bd) (u := .int .i64 k1) (o := 1) (by omega)).trans ((cell_set_nb (W := w6) (b := bd) (u := .int .i64 k0) (o := 0) (by omega)).trans b1)
  replace c0 := (cell_set_nb (W := w6.setCell ⟨bd, 0, none⟩ (.int .i64 k0)) (b := bd) (u := .int .i64 k1) (o := 1) (by omega)).trans ((cell_set_nb (W := w6) (b := bd) (u := .int .i64 k0) (o := 0) (by omega)).trans c0)
  replace c1 := (cell_set_nb (W := w6.setCell ⟨bd, 0, none⟩ (.int .i64 k0)) (b := bd) (u := .int .i64 k1) (o := 1) (by omega)).trans ((cell_set_nb (W := w6) (b := bd) (u := .int .i64 k0) (o := 0) (by omega)).trans c1)
  replace d0 : ((w6.setCell ⟨bd, 0, none⟩ (.int .i64 k0)).setCell ⟨bd, 1, none⟩ (.int .i64 k1)).cell? ⟨bd, 0, none⟩ = some (.int .i64 k0) := (cell_set_ne (by omega)).trans (cell_set_eq d0)
  replace d1 : ((w6.setCell ⟨bd, 0, none⟩ (.int .i64 k0)).setCell ⟨bd, 1, none⟩ (.int .i64 k1)).cell? ⟨bd, 1, none⟩ = some (.int .i64 k1) := cell_set_eq ((cell_set_ne (by omega)).trans d1)
  replace cf0 : ((w6.setCell ⟨bd, 0, none⟩ (.int .i64 k0)).setCell ⟨bd, 1, none⟩ (.int .i64 k1)).frozen? ⟨bc, 0, none⟩ = false := (World.frozen?_setCell _ _ _ _).trans ((World.frozen?_setCell _ _ _ _).trans cf0)
  replace cf1 : ((w6.setCell ⟨bd, 0, none⟩ (.int .i64 k0)).setCell ⟨bd, 1, none⟩ (.int .i64 k1)).frozen? ⟨bc, 1, none⟩ = false := (World.frozen?_setCell _ _ _ _).trans ((World.frozen?_setCell _ _ _ _).trans cf1)
  replace df0 : ((w6.setCell ⟨bd, 0, none⟩ (.int .i64 k0)).setCell ⟨bd, 1, none⟩ (.int .i64 k1)).frozen? ⟨bd, 0, none⟩ = false := (World.frozen?_setCell _ _ _ _).trans ((World.frozen?_setCell _ _ _ _).trans df0)
  replace df1 : ((w6.setCell ⟨bd, 0, none⟩ (.int .i64 k0)).setCell ⟨bd, 1, none⟩ (.int .i64 k1)).frozen? ⟨bd, 1, none⟩ = false := (World.frozen?_setCell _ _ _ _).trans ((World.frozen?_setCell _ _ _ _).trans df1)
  replace hk := hs
  clear hs
  generalize ((w6.setCell ⟨bd, 0, none⟩ (.int .i64 k0)).setCell ⟨bd, 1, none⟩ (.int .i64 k1)) = v4 at *
  have hz := Go.Ai.lt_of_cell a0
  have hzb := Go.Ai.lt_of_cell b0
  have hzc := Go.Ai.lt_of_cell c0
  have hzd := Go.Ai.lt_of_cell d0
  go_wp2_with fail
  refine (HP4.out v4 hk).mono ?_
  rintro e w7 ⟨rfl, hk'⟩
  replace cf0 := ((kturns hk' (fun _ => False)).frozen (Go.Ai.lt_of_cell c0) (fun h => h)).trans cf0
  replace cf1 := ((kturns hk' (fun _ => False)).frozen (Go.Ai.lt_of_cell c0) (fun h => h)).trans cf1
  replace df0 := ((kturns hk' (fun _ => False)).frozen (Go.Ai.lt_of_cell d0) (fun h => h)).trans df0
  replace df1 := ((kturns hk' (fun _ => False)).frozen (Go.Ai.lt_of_cell d0) (fun h => h)).trans df1
  replace a0 := kcell hk' a0
  replace a1 := kcell hk' a1
  replace a2 := kcell hk' a2
  replace b0 := kcell hk' b0
  replace b1 := kcell hk' b1
  replace c0 := kcell hk' c0
  replace c1 := kcell hk' c1
  replace d0 := kcell hk' d0
  replace d1 := kcell hk' d1
  replace hk := kept_trans hk hk'
  clear hk'
  have hz := Go.Ai.lt_of_cell a0
  have hzb := Go.Ai.lt_of_cell b0
  have hzc := Go.Ai.lt_of_cell c0
  have hzd := Go.Ai.lt_of_cell d0
  go_wp2_with fail
  have hs : Kept W ((w7.setCell ⟨bc, 0, none⟩ (.int .i64 g0)).setCell ⟨bc, 1, none⟩ (.int .i64 g1)) := Below.setCell (p := ⟨bc, 1, none⟩) (Below.setCell (p := ⟨bc, 0, none⟩) hk cz _) cz _
  replace a0 := (cell_set_nb (W := w7.setCell ⟨bc, 0, none⟩ (.int .i64 g0)) (b := bc) (u := .int .i64 g1) (o := 1) (by omega)).trans ((cell_set_nb (W := w7) (b := bc) (u := .int .i64 g0) (o := 0) (by omega)).trans a0)
  replace a1 := (cell_set_nb (W := w7.setCell ⟨bc, 0, none⟩ (.int .i64 g0)) (b := bc) (u := .int .i64 g1) (o := 1) (by omega)).trans ((cell_set_nb (W := w7) (b := bc) (u := .int .i64 g0) (o := 0) (by omega)).trans a1)
  replace a2 := (cell_set_nb (W := w7.setCell ⟨bc, 0, none⟩ (.int .i64 g0)) (b := bc) (u := .int .i64 g1) (o := 1) (by omega)).trans ((cell_set_nb (W := w7) (b := bc) (u := .int .i64 g0) (o := 0) (by omega)).trans a2)
  replace b0 := (cell_set_nb (W := w7.setCell ⟨bc, 0, none⟩ (.int .i64 g0)) (b := bc) (u := .int .i64 g1) (o := 1) (by omega)).trans ((cell_set_nb (W := w7) (b := bc) (u := .int .i64 g0) (o := 0) (by omega)).trans b0)
  replace b1 := (cell_set_nb (W := w7.setCell ⟨bc, 0, none⟩ (.int .i64 g0)) (b := bc) (u := .int .i64 g1) (o := 1) (by omega)).trans ((cell_set_nb (W := w7) (b := bc) (u := .int .i64 g0) (o := 0) (by omega)).trans b1)
  replace d0 := (cell_set_nb (W := w7.setCell ⟨bc, 0, none⟩ (.int .i64 g0)) (b := bc) (u := .int .i64 g1) (o := 1) (by omega)).trans ((cell_set_nb (W := w7) (b := bc) (u := .int .i64 g0) (o := 0) (by omega)).trans d0)
  replace d1 := (cell_set_nb (W := w7.setCell ⟨bc, 0, none⟩ (.int .i64 g0)) (b := bc) (u := .int .i64 g1) (o := 1) (by omega)).trans ((cell_set_nb (W := w7) (b := bc) (u := .int .i64 g0) (o := 0) (by omega)).trans d1)
  replace c0 : ((w7.setCell ⟨bc, 0, none⟩ (.int .i64 g0)).setCell ⟨bc, 1, none⟩ (.int .i64 g1)).cell? ⟨bc, 0, none⟩ = some (.int .i64 g0) := (cell_set_ne (by omega)).trans (cell_set_eq c0)
  replace c1 : ((w7.setCell ⟨bc, 0, none⟩ (.int .i64 g0)).setCell ⟨bc, 1, none⟩ (.int .i64 g1)).cell? ⟨bc, 1, none⟩ = some (.int .i64 g1) := cell_set_eq ((cell_set_ne (by omega)).trans c1)
  replace cf0 : ((w7.setCell ⟨bc, 0, none⟩ (.int .i64 g0)).setCell ⟨bc, 1, none⟩ (.int .i64 g1)).frozen? ⟨bc, 0, none⟩ = false := (World.frozen?_setCell _ _ _ _).trans ((World.frozen?_setCell _ _ _ _).trans cf0)
  replace cf1 : ((w7.setCell ⟨bc, 0, none⟩ (.int .i64 g0)).setCell ⟨bc, 1, none⟩ (.int .i64 g1)).frozen? ⟨bc, 1, none⟩ = false := (World.frozen?_setCell _ _ _ _).trans ((World.frozen?_setCell _ _ _ _).trans cf1)
  replace df0 : ((w7.setCell ⟨bc, 0, none⟩ (.int .i64 g0)).setCell ⟨bc, 1, none⟩ (.int .i64 g1)).frozen? ⟨bd, 0, none⟩ = false := (World.frozen?_setCell _ _ _ _).trans ((World.frozen?_setCell _ _ _ _).trans df0)
  replace df1 : ((w7.setCell ⟨bc, 0, none⟩ (.int .i64 g0)).setCell ⟨bc, 1, none⟩ (.int .i64 g1)).frozen? ⟨bd, 1, none⟩ = false := (World.frozen?_setCell _ _ _ _).trans ((World.frozen?_setCell _ _ _ _).trans df1)
  replace hk := hs
  clear hs
  generalize ((w7.setCell ⟨bc, 0, none⟩ (.int .i64 g0)).setCell ⟨bc, 1, none⟩ (.int .i64 g1)) = v5 at *
  have hz := Go.Ai.lt_of_cell a0
  have hzb := Go.Ai.lt_of_cell b0
  have hzc := Go.Ai.lt_of_cell c0
  have hzd := Go.Ai.lt_of_cell d0
  go_wp2_with fail
  refine (HR4.out v5 hk).mono ?_
  rintro e w8 ⟨rfl, hk'⟩
  replace cf0 := ((kturns hk' (fun _ => False)).frozen (Go.Ai.lt_of_cell c0) (fun h => h)).trans cf0
  replace cf1 := ((kturns hk' (fun _ => False)).frozen (Go.Ai.lt_of_cell c0) (fun h => h)).trans cf1
  replace df0 := ((kturns hk' (fun _ => False)).frozen (Go.Ai.lt_of_cell d0) (fun h => h)).trans df0
  replace df1 := ((kturns hk' (fun _ => False)).frozen (Go.Ai.lt_of_cell d0) (fun h => h)).trans df1
  replace a0 := kcell hk' a0
  replace a1 := kcell hk' a1
  replace a2 := kcell hk' a2
  replace b0 := kcell hk' b0
  replace b1 := kcell hk' b1
  replace c0 := kcell hk' c0
  replace c1 := kcell hk' c1
  replace d0 := kcell hk' d0
  replace d1 := kcell hk' d1
  replace hk := kept_trans hk hk'
  clear hk'
  have hz := Go.Ai.lt_of_cell a0
  have hzb := Go.Ai.lt_of_cell b0
  have hzc := Go.Ai.lt_of_cell c0
  have hzd := Go.Ai.lt_of_cell d0
  go_wp2_with fail
  have hs : Kept W ((w8.setCell ⟨bd, 0, none⟩ (.int .i64 g0)).setCell ⟨bd, 1, none⟩ (.int .i64 g1)) := Below.setCell (p := ⟨bd, 1, none⟩) (Below.setCell (p := ⟨bd, 0, none⟩) hk dz _) dz _
  replace a0 := (cell_set_nb (W := w8.setCell ⟨bd, 0, none⟩ (.int .i64 g0)) (b := bd) (u := .int .i64 g1) (o := 1) (by omega)).trans ((cell_set_nb (W := w8) (b := bd) (u := .int .i64 g0) (o := 0) (by omega)).trans a0)
  replace a1 := (cell_set_nb (W := w8.setCell ⟨bd, 0, none⟩ (.int .i64 g0)) (b := bd) (u := .int .i64 g1) (o := 1) (by omega)).trans ((cell_set_nb (W := w8) (b := bd) (u := .int .i64 g0) (o := 0) (by omega)).trans a1)
  replace a2 := (cell_set_nb (W := w8.setCell ⟨bd, 0, none⟩ (.int .i64 g0)) (b := bd) (u := .int .i64 g1) (o := 1) (by omega)).trans ((cell_set_nb (W := w8) (b := bd) (u := .int .i64 g0) (o := 0) (by omega)).trans a2)
  replace b0 := (cell_set_nb (W := w8.setCell ⟨bd, 0, none⟩ (.int .i64 g0)) (b := bd) (u := .int .i64 g1) (o := 1) (by omega)).trans ((cell_set_nb (W := w8) (b := bd) (u := .int .i64 g0) (o := 0) (by omega)).trans b0)
  replace b1 := (cell_set_nb (W := w8.setCell ⟨bd, 0, none⟩ (.int .i64 g0)) (b := bd) (u := .int .i64 g1) (o := 1) (by omega)).trans ((cell_set_nb (W := w8) (b := bd) (u := .int .i64 g0) (o := 0) (by omega)).trans b1)
  replace c0 := (cell_set_nb (W := w8.setCell ⟨bd, 0, none⟩ (.int .i64 g0)) (b := bd) (u := .int .i64 g1) (o := 1) (by omega)).trans ((cell_set_nb (W := w8) (b := bd) (u := .int .i64 g0) (o := 0) (by omega)).trans c0)
  replace c1 := (cell_set_nb (W := w8.setCell ⟨bd, 0, none⟩ (.int .i64 g0)) (b := bd) (u := .int .i64 g1) (o := 1) (by omega)).trans ((cell_set_nb (W := w8) (b := bd) (u := .int .i64 g0) (o := 0) (by omega)).trans c1)
  replace d0 : ((w8.setCell ⟨bd, 0, none⟩ (.int .i64 g0)).setCell ⟨bd, 1, none⟩ (.int .i64 g1)).cell? ⟨bd, 0, none⟩ = some (.int .i64 g0) := (cell_set_ne (by omega)).trans (cell_set_eq d0)
  replace d1 : ((w8.setCell ⟨bd, 0, none⟩ (.int .i64 g0)).setCell ⟨bd, 1, none⟩ (.int .i64 g1)).cell? ⟨bd, 1, none⟩ = some (.int .i64 g1) := cell_set_eq ((cell_set_ne (by omega)).trans d1)
  replace cf0 : ((w8.setCell ⟨bd, 0, none⟩ (.int .i64 g0)).setCell ⟨bd, 1, none⟩ (.int .i64 g1)).frozen? ⟨bc, 0, none⟩ = false := (World.frozen?_setCell _ _ _ _).trans ((World.frozen?_setCell _ _ _ _).trans cf0)
  replace cf1 : ((w8.setCell ⟨bd, 0, none⟩ (.int .i64 g0)).setCell ⟨bd, 1, none⟩ (.int .i64 g1)).frozen? ⟨bc, 1, none⟩ = false := (World.frozen?_setCell _ _ _ _).trans ((World.frozen?_setCell _ _ _ _).trans cf1)
  replace df0 : ((w8.setCell ⟨bd, 0, none⟩ (.int .i64 g0)).setCell ⟨bd, 1, none⟩ (.int .i64 g1)).frozen? ⟨bd, 0, none⟩ = false := (World.frozen?_setCell _ _ _ _).trans ((World.frozen?_setCell _ _ _ _).trans df0)
  replace df1 : ((w8.setCell ⟨bd, 0, none⟩ (.int .i64 g0)).setCell ⟨bd, 1, none⟩ (.int .i64 g1)).frozen? ⟨bd, 1, none⟩ = false := (World.frozen?_setCell _ _ _ _).trans ((World.frozen?_setCell _ _ _ _).trans df1)
  replace hk := hs
  clear hs
  generalize ((w8.setCell ⟨bd, 0, none⟩ (.int .i64 g0)).setCell ⟨bd, 1, none⟩ (.int .i64 g1)) = v6 at *
  have hz := Go.Ai.lt_of_cell a0
  have hzb := Go.Ai.lt_of_cell b0
  have hzc := Go.Ai.lt_of_cell c0
  have hzd := Go.Ai.lt_of_cell d0
  go_wp2_with fail
  refine (sung_is v6 (HB.out.laid.kept hk) (HG.out.kept hk)).mono ?_
  rintro e wE ⟨rfl, hkE⟩
  go_wp2_with fail
  refine bodyPost_ret (v := .bool true) (by simp [results, Tryz.results3, go_sem]) rfl ⟨rfl, kept_trans hk hkE⟩
end Go.Proofs.YthkcgengohoboaaGreatDoor
set_option linter.all false
namespace Go.Proofs.YthkcgengohoboaaGreatDoor
open Go.ChangeShapes Go.WideShapes Go.ChangeAt Go.WideMaps Go.WideElems Go.RowKit Go.Deep Go.Rg
set_option maxRecDepth 100000
theorem vcA2 : Tryz.prog.cellsOf 26 = 2 := by kernel_rfl
theorem len2 {α : Type} {l : List α} (h : l.length = 2) : ∃ a b, l = [a, b] := by
  match l, h with
  | [a, b], _ => exact ⟨a, b, rfl⟩
set_option maxHeartbeats 1000000 in
theorem vlifted (os : Os) (started : os.Started) (H : Type) (enc : TypeId × Value → H) :
    ReturnsInHanded {} Tryz.checked os 3 .any (fun w args => (Rows.voiceNotesSpec.pre enc Tryz.prog Tryz.f3 [] false w args ∧ laidMetH Tryz.prog vlaid w) ∧ sizedMet enc Tryz.prog Tryz.f3 (OpenSpec.ofChange Rows.voiceNotesSpec) false w args)
      (Rows.voiceNotesSpec.post enc Tryz.prog Tryz.f3 false true false false) := by
  refine returnsInHanded_of_change_and (C := Tryz.checked) (X := fun w _ => laidMetH Tryz.prog vlaid w) (fun _ _ _ hh h => h.of_heap hh) vown started (by kernel_rfl) Tryz.func3
    (ChangeSpec.witness_shaped (enc := enc) (C := Tryz.checked) (os := os) (X := fun w _ => laidMetH Tryz.prog vlaid w) false (World.doorLaid Tryz.prog 400 os) #[.agg #[.slice none 0 0, .int .i64 0, .slice none 0 0], .agg #[.int .i64 0, .int .i64 0]] 8 rfl (World.shaped_of_RefB (by kernel_rfl) (by kernel_rfl)) (by kernel_rfl) (by kernel_rfl) (by kernel_rfl) (vdoor_met os _)) ?_
  intro W base args ds gs before hval0 hW _ hwt0 hL _
  have hW' := hW
  obtain ⟨p, q, hA0, hV, rfl, hfz, hnd⟩ := hW
  have hA : DataW.TrodAll enc Tryz.prog W 0 (fun _ => true) true Tryz.f3.params.toList args.toList ds p := hA0
  have hval := hval0
  have hwt := hwt0
  rw [Tryz.params3] at hA hval hwt
  obtain ⟨v0, v1, d0, d1, p0, p1, rfl, rfl, rfl, h0, h1⟩ := trodAll_two hA
  obtain ⟨rfl, rfl⟩ := trodVars_none hV
  have hlt : ∀ x ∈ p0 ++ p1, x.block < W.heap.size := fun x hx => hW'.lt x (by simpa using hx)
  have a0 : ∀ (W' : World), Below W.heap.size W W' → DataW.Trod enc Tryz.prog W' 0 (fun b => decide (b < W.heap.size)) true 25 v0 d0 p0 :=
    fun W' hn => Below.trod vlaidOut (by kernel_rfl) (of_decide_eq_true (by kernel_rfl)) h0 hn (fun x hx => hlt x (List.mem_append_left _ hx))
  have a1 : ∀ (W' : World), Below W.heap.size W W' → DataW.Trod enc Tryz.prog W' 0 (fun b => decide (b < W.heap.size)) true 26 v1 d1 p1 :=
    fun W' hn => Below.trod vlaidOut (by kernel_rfl) (of_decide_eq_true (by kernel_rfl)) h1 hn (fun x hx => hlt x (List.mem_append_right _ hx))
  obtain ⟨l1, l2⟩ := of_vlaid hL
  have hN : Nothing W := l1
  have hLd : Laid W := ⟨Go.Ai.lt_of_cell (l2 0 (by omega)), l2 0 (by omega), l2 1 (by omega), l2 2 (by omega), l2 3 (by omega), l2 4 (by omega), l2 5 (by omega), l2 6 (by omega), l2 7 (by omega), l2 8 (by omega), l2 9 (by omega)⟩
  obtain ⟨c0, rfl, hc0⟩ := okWide_struct Tryz.underlying25 (hval 0 25 v0 rfl rfl)
  obtain ⟨fu0, hf0⟩ := h0
  obtain ⟨y0, y1, y2, n, hy, hl0, t0, t1, t2⟩ := trod_struct3 Tryz.underlying25 hf0
  rw [vcK] at hc0
  obtain ⟨lc⟩ := c0
  obtain ⟨s0, s1, s2, rfl⟩ := len3 (by simpa using hc0)
  clear hc0 hl0 hf0
  have u0 : DataW.trod enc Tryz.prog W 0 (fun _ => true) true n 22 (([s0, s1, s2].drop 0).take (Tryz.prog.cellsOf 22)) = some y0 := t0
  have u1 : DataW.trod enc Tryz.prog W 0 (fun _ => true) true n 3 (([s0, s1, s2].drop 1).take (Tryz.prog.cellsOf 3)) = some y1 := t1
  have u2 : DataW.trod enc Tryz.prog W 0 (fun _ => true) true n 23 (([s0, s1, s2].drop 2).take (Tryz.prog.cellsOf 23)) = some y2 := t2
  rw [vcL] at u0
  rw [vcI] at u1
  rw [vcM] at u2
  have hy1 := congrArg Prod.fst hy
  simp only at hy1
  subst hy1
  obtain ⟨hw1, hw2⟩ := book_weights hwt
  obtain ⟨wk, rfl⟩ := one_int u1
  obtain ⟨pb, capb, lb, rfl, nb, hb, _⟩ := rows_of (k := 11) boyCells (by omega) (fun _ => rfl) Tryz.underlying22 vcB (fun n cs x h => boy_ints h) u0
  obtain ⟨pt, capt, lt, rfl, nt, ht, hroom⟩ := rows_of (k := 4) trialCells (by omega) (fun _ => rfl) Tryz.underlying23 vcT (fun n cs x h => trial_ints h) u2
  clear u0 u1 u2 t0 t1 t2
  have hBook : BookAt W pb pt capb capt ⟨lb, wk, lt⟩ := by
    refine ⟨hLd, nb.elim (fun e => by rw [e]; simp) (few_boys hw1), ⟨nt.elim (fun e => by rw [e]; simp) (few_trials hw2), hroom⟩, ?_, ?_⟩
    · rcases hb with e | ⟨b, o, rfl, hz, hc⟩
      · exact .inl e
      · exact .inr ⟨b, o, rfl, hz, fun i y hy => ⟨hc i y hy 0 (by omega), hc i y hy 1 (by omega), hc i y hy 2 (by omega), hc i y hy 3 (by omega), hc i y hy 4 (by omega), hc i y hy 5 (by omega), hc i y hy 6 (by omega), hc i y hy 7 (by omega), hc i y hy 8 (by omega), hc i y hy 9 (by omega), hc i y hy 10 (by omega)⟩⟩
    · rcases ht with e | ⟨b, o, rfl, hz, hc⟩
      · exact .inl e
      · exact .inr ⟨b, o, rfl, hz, fun i y hy => ⟨hc i y hy 0 (by omega), hc i y hy 1 (by omega), hc i y hy 2 (by omega), hc i y hy 3 (by omega)⟩⟩
  obtain ⟨c1, rfl, hc1⟩ := okWide_arr Tryz.underlying26 (hval 1 26 v1 rfl rfl)
  obtain ⟨fu1, hf1⟩ := h1
  obtain ⟨xs, m1, _, _, hl1, hxl, hel⟩ := DataW.trod_array Tryz.underlying26 hf1
  rw [vcA2] at hc1
  obtain ⟨l3⟩ := c1
  obtain ⟨m0, m1', rfl⟩ := len2 (by simpa using hc1)
  obtain ⟨z0, z1, rfl⟩ := len2 hxl
  have w0 : DataW.trod enc Tryz.prog W 0 (fun _ => true) true m1 3 (([m0, m1'].drop (0 * Tryz.prog.cellsOf 3)).take (Tryz.prog.cellsOf 3)) = some z0 := hel 0 (by omega)
  have w1 : DataW.trod enc Tryz.prog W 0 (fun _ => true) true m1 3 (([m0, m1'].drop (1 * Tryz.prog.cellsOf 3)).take (Tryz.prog.cellsOf 3)) = some z1 := hel 1 (by omega)
  rw [vcI] at w0 w1
  obtain ⟨n0, rfl⟩ := one_int w0
  obtain ⟨n1, rfl⟩ := one_int w1
  clear w0 w1 hel hf1 hl1 hc1 hb ht
  have hlaw : Calls Tryz.prog 3 #[(Book.mk lb wk lt).val pb pt capb capt, .agg #[.int .i64 n0, .int .i64 n1]] W fun e C => e = .returned (.bool true) ∧ Kept W C := by
    exact notes_all pb pt capb capt _ n0 n1 W hBook hN
  refine hlaw.mono fun e W' ⟨he, hk⟩ => ?_
  subst he
  exact ⟨_, rfl, _, _, _, [], _, [], hW', trodAll_mk1 (shut_bool Tryz.underlying4 true), ⟨_, _, a0 W' hk, ⟨_, _, a1 W' hk, rfl, rfl⟩, rfl⟩, rfl, kept_but hk _, fun h => by cases h⟩

theorem voiceNotes_holds : Rows.VoiceNotesSaid :=
  OpenClaim.holds_of_wide 3 Tryz.f3 rfl rfl rfl rfl rfl rfl rfl ⟨rfl, rfl, rfl, rfl, rfl⟩ rfl rfl rfl rfl rfl (by kernel_rfl) Tryz.func3 (by kernel_rfl)
    (of_decide_eq_true (by kernel_rfl)) (by unfold Func.isWrapper; first | (rw [if_pos (by decide +kernel)]; kernel_rfl) | (rw [if_neg (by decide +kernel)]; exact ⟨rfl, rfl⟩))
    (fun os started H enc _ => vlifted os started H enc)

theorem vsi0 : Tryz.prog.wantsStandIn 25 = false := by kernel_rfl
theorem vsi1 : Tryz.prog.wantsStandIn 26 = false := by kernel_rfl
theorem voiceNotes_card_holds : Rows.VoiceNotesCardSaid :=
  Claim7.holds_tied_plain_at .later [] [.data, .data] true (true, "5c4b87f4a7cbbbc90cfe47ae55d5aaa8e70e54cf31c79c0fc3f89bc86bf81c0e") false
    voiceNotes_holds (fun _ h => by cases h) (by kernel_rfl) (fun _ h => by cases h) voiceNotes_row_tie rfl ⟨rfl, rfl⟩ (by kernel_rfl) rfl
    (fun f fn hf hfn => by
      obtain rfl : f = 3 := Option.some.inj ((show Tryz.prog.funcNamed "decani/decanilaw02.VoiceNotes" = some 3 by kernel_rfl).symm.trans hf) |>.symm
      obtain rfl : fn = Tryz.f3 := (Option.some.inj (Tryz.func3.symm.trans hfn)).symm
      exact ⟨by kernel_rfl, fun j t ht => by
        rw [Tryz.params3] at ht
        match j, ht with
        | 0, ht => simp at ht; subst ht; exact vsi0
        | 1, ht => simp at ht; subst ht; exact vsi1
        | n + 2, ht => simp at ht⟩)
    (by kernel_rfl)
#print axioms voiceNotes_card_holds
end Go.Proofs.YthkcgengohoboaaGreatDoor
