/- A part of the proof: contracts of the program's functions for every input. No conditions. -/
import Derived.Test.YtchgkfnodcbpiaaDoorPA
import Derived.Test.YtchgkfnodcbpiaaDoorVF
import Derived.Test.YtchgkfnodcbpiaaDoorQA
import Derived.Test.YtchgkfnodcbpiaaDoorVI
set_option linter.all false
set_option linter.all false
namespace Go.Proofs.YtchgkfnodcbpiaaDoor
open Go.RowKit Go.Sort Go.Rg
set_option maxRecDepth 100000

section
variable {p q : Option Addr} {cap capt : Nat} {B : Book} {boy : Nat} {W : World} {x : Boy} {week note : Int} {t : Trial}
theorem must_can (h : BookAt W p q cap capt B) (hg : Nothing W) (hok : B.okB = true) (hc : Can B) (hw : 0 ≤ week ∧ week < B.weeks) :
    Calls Tryd.prog 15 #[B.val p q cap capt, .int .i64 week] W fun e C => ∃ v, e = .returned (.tuple #[v, .int .i64 0]) ∧ Kept W C ∧ ListAt C v (surelyL B (fun _ => brokenB week) B.boys.length) := by
  refine (must_any p q cap capt B week W h hg hok hw).mono ?_
  rintro e C ⟨v, err, rfl, hk, ⟨rfl, _, hr⟩ | ⟨_, hn, _⟩⟩
  · exact ⟨v, rfl, hk, ListAt.of_row hr⟩
  · exact absurd hc hn
theorem more_can (h : Can (B.more t)) : Can B := can_mono (A := B) (B := B.more t) rfl rfl (fun t ht => List.mem_append_left _ ht) h
theorem more_mem {n : List Int} (h : n ∈ (B.more t).truths boy x) : n ∈ B.truths boy x := truths_mono (A := B) (B := B.more t) rfl (fun t ht => List.mem_append_left _ ht) h
theorem more_lo {f : List Int → Int} (hc : Can (B.more t)) (hx : B.boys[boy]? = some x) {a b a' b' : Int} {c c' : Bool} (e1 : spanOf (fun n => (f n, true)) (B.truths boy x) = (a, b, c)) (e2 : spanOf (fun n => (f n, true)) ((B.more t).truths boy x) = (a', b', c')) : a ≤ a' ∧ b' ≤ b := by
  obtain ⟨n, hn⟩ := List.exists_mem_of_ne_nil _ (hc boy x hx)
  obtain ⟨q0, q1, f2, _⟩ := spanOf_some (fun n => (f n, true)) _ ⟨n, hn, rfl⟩
  rw [e2] at f2
  cases f2
  obtain ⟨_, h1, h2, _⟩ := span_sub (fun n hn => more_mem hn) e1 e2
  exact ⟨h1, h2⟩
theorem more_hi {a b a' b' : Int} {c : Bool} (e1 : sHi B boy week x = (a, b, c)) (e2 : sHi (B.more t) boy week x = (a', b', true)) : c = true ∧ a ≤ a' ∧ b' ≤ b := by
  obtain ⟨h0, h1, h2, _⟩ := span_sub (f := hiF B boy week) (fun n hn => more_mem hn) e1 e2
  exact ⟨h0, h1, h2⟩
theorem more_si (hc : Can (B.more t)) (hx : B.boys[boy]? = some x) : sSi B boy week note x = 1 ∨ sSi (B.more t) boy week note x = sSi B boy week note x := by
  obtain ⟨n, hn⟩ := List.exists_mem_of_ne_nil _ (hc boy x hx)
  have hsub : ∀ m, m ∈ (B.more t).truths boy x → m ∈ B.truths boy x := fun m hm => more_mem hm
  have hs : singsN (B.more t) week note note boy = singsN B week note note boy := rfl
  unfold sSi oftenOf
  rw [hs]
  generalize (B.more t).truths boy x = l' at *
  generalize B.truths boy x = l at *
  generalize singsN B week note note boy = sb at *
  by_cases h1 : l.all sb = true
  · have h2 : l'.all sb = true := by
      rw [List.all_eq_true] at h1 ⊢
      exact fun m hm => h1 m (hsub m hm)
    rw [if_pos h1, if_pos h2]; exact .inr rfl
  · by_cases h3 : l.any sb = true
    · rw [if_neg h1, if_pos h3]; exact .inl rfl
    · have h3' : ∀ m, m ∈ l → ¬ sb m = true := by simpa using h3
      have h4 : ¬ l'.any sb = true := by
        simp only [List.any_eq_true, not_exists, not_and]
        exact fun m hm => h3' m (hsub m hm)
      have h5 : ¬ l'.all sb = true := by
        rw [List.all_eq_true]
        exact fun h => h3' n (hsub n hn) (h n hn)
      rw [if_neg h1, if_neg h3, if_neg h5, if_neg h4]; exact .inr rfl
theorem more_must {b : Nat} (h : b ∈ surelyL B (fun _ => brokenB week) B.boys.length) : b ∈ surelyL (B.more t) (fun _ => brokenB week) (B.more t).boys.length := by
  have hb := surelyL_lt h
  have hx : B.boys[b]? = some B.boys[b] := List.getElem?_eq_getElem hb
  rw [must_iff hx] at h
  rw [must_iff (B := B.more t) (x := B.boys[b]) hx]
  exact fun n hn => h n (more_mem hn)
end
end Go.Proofs.YtchgkfnodcbpiaaDoor
set_option linter.all false
namespace Go.Proofs.YtchgkfnodcbpiaaDoor
open Go.RowKit Go.Sort Go.Rg
set_option maxRecDepth 100000

set_option maxHeartbeats 100000000 in
theorem more_false (p q : Option Addr) (cap capt : Nat) (B : Book) (t : Trial) (n0 n1 n2 : Int) (W : World) (h : BookAt W p q cap capt B) (hg : Nothing W) (hok : B.okB = false) :
    Calls Tryd.prog 3 #[B.val p q cap capt, .agg #[.int .i64 t.boy, .int .i64 t.week, .int .i64 t.note, .int .i64 t.sang], .agg #[.int .i64 n0, .int .i64 n1, .int .i64 n2]] W fun e C => e = .returned (.bool true) ∧ Kept W C := by
  have hk0 : Kept W (((W.alloc (Obj.cells #[.slice p B.boys.length cap, .int .i64 B.weeks, .slice q B.trials.length capt] 25)).alloc (Obj.cells #[.int .i64 t.boy, .int .i64 t.week, .int .i64 t.note, .int .i64 t.sang] 27)).alloc (Obj.cells #[.int .i64 n0, .int .i64 n1, .int .i64 n2] 28)) := kept_alloc (kept_alloc (kept_alloc (kept_refl _) _) _) _
  have hcall := small_any p q cap capt B _ (h.kept hk0)
  rw [hok] at hcall
  unfold Book.val at hcall ⊢
  have HC := Lib.hid hcall; clear hcall
  have a0 : (((W.alloc (Obj.cells #[.slice p B.boys.length cap, .int .i64 B.weeks, .slice q B.trials.length capt] 25)).alloc (Obj.cells #[.int .i64 t.boy, .int .i64 t.week, .int .i64 t.note, .int .i64 t.sang] 27)).alloc (Obj.cells #[.int .i64 n0, .int .i64 n1, .int .i64 n2] 28)).cell? ⟨W.heap.size, 0, none⟩ = some (.slice p B.boys.length cap) := by go_simp
  have a1 : (((W.alloc (Obj.cells #[.slice p B.boys.length cap, .int .i64 B.weeks, .slice q B.trials.length capt] 25)).alloc (Obj.cells #[.int .i64 t.boy, .int .i64 t.week, .int .i64 t.note, .int .i64 t.sang] 27)).alloc (Obj.cells #[.int .i64 n0, .int .i64 n1, .int .i64 n2] 28)).cell? ⟨W.heap.size, 1, none⟩ = some (.int .i64 B.weeks) := by go_simp
  have a2 : (((W.alloc (Obj.cells #[.slice p B.boys.length cap, .int .i64 B.weeks, .slice q B.trials.length capt] 25)).alloc (Obj.cells #[.int .i64 t.boy, .int .i64 t.week, .int .i64 t.note, .int .i64 t.sang] 27)).alloc (Obj.cells #[.int .i64 n0, .int .i64 n1, .int .i64 n2] 28)).cell? ⟨W.heap.size, 2, none⟩ = some (.slice q B.trials.length capt) := by go_simp
  have v0 : (((W.alloc (Obj.cells #[.slice p B.boys.length cap, .int .i64 B.weeks, .slice q B.trials.length capt] 25)).alloc (Obj.cells #[.int .i64 t.boy, .int .i64 t.week, .int .i64 t.note, .int .i64 t.sang] 27)).alloc (Obj.cells #[.int .i64 n0, .int .i64 n1, .int .i64 n2] 28)).cell? ⟨W.heap.size + 1, 0, none⟩ = some (.int .i64 t.boy) := by go_simp
  have v1 : (((W.alloc (Obj.cells #[.slice p B.boys.length cap, .int .i64 B.weeks, .slice q B.trials.length capt] 25)).alloc (Obj.cells #[.int .i64 t.boy, .int .i64 t.week, .int .i64 t.note, .int .i64 t.sang] 27)).alloc (Obj.cells #[.int .i64 n0, .int .i64 n1, .int .i64 n2] 28)).cell? ⟨W.heap.size + 1, 1, none⟩ = some (.int .i64 t.week) := by go_simp
  have v2 : (((W.alloc (Obj.cells #[.slice p B.boys.length cap, .int .i64 B.weeks, .slice q B.trials.length capt] 25)).alloc (Obj.cells #[.int .i64 t.boy, .int .i64 t.week, .int .i64 t.note, .int .i64 t.sang] 27)).alloc (Obj.cells #[.int .i64 n0, .int .i64 n1, .int .i64 n2] 28)).cell? ⟨W.heap.size + 1, 2, none⟩ = some (.int .i64 t.note) := by go_simp
  have v3 : (((W.alloc (Obj.cells #[.slice p B.boys.length cap, .int .i64 B.weeks, .slice q B.trials.length capt] 25)).alloc (Obj.cells #[.int .i64 t.boy, .int .i64 t.week, .int .i64 t.note, .int .i64 t.sang] 27)).alloc (Obj.cells #[.int .i64 n0, .int .i64 n1, .int .i64 n2] 28)).cell? ⟨W.heap.size + 1, 3, none⟩ = some (.int .i64 t.sang) := by go_simp
  have b0 : (((W.alloc (Obj.cells #[.slice p B.boys.length cap, .int .i64 B.weeks, .slice q B.trials.length capt] 25)).alloc (Obj.cells #[.int .i64 t.boy, .int .i64 t.week, .int .i64 t.note, .int .i64 t.sang] 27)).alloc (Obj.cells #[.int .i64 n0, .int .i64 n1, .int .i64 n2] 28)).cell? ⟨W.heap.size + 1 + 1, 0, none⟩ = some (.int .i64 n0) := by go_simp
  have b1 : (((W.alloc (Obj.cells #[.slice p B.boys.length cap, .int .i64 B.weeks, .slice q B.trials.length capt] 25)).alloc (Obj.cells #[.int .i64 t.boy, .int .i64 t.week, .int .i64 t.note, .int .i64 t.sang] 27)).alloc (Obj.cells #[.int .i64 n0, .int .i64 n1, .int .i64 n2] 28)).cell? ⟨W.heap.size + 1 + 1, 1, none⟩ = some (.int .i64 n1) := by go_simp
  have b2 : (((W.alloc (Obj.cells #[.slice p B.boys.length cap, .int .i64 B.weeks, .slice q B.trials.length capt] 25)).alloc (Obj.cells #[.int .i64 t.boy, .int .i64 t.week, .int .i64 t.note, .int .i64 t.sang] 27)).alloc (Obj.cells #[.int .i64 n0, .int .i64 n1, .int .i64 n2] 28)).cell? ⟨W.heap.size + 1 + 1, 2, none⟩ = some (.int .i64 n2) := by go_simp
  go_enter Tryd.func3, Tryd.ntmps3
  go_wp2_with fail
  generalize (((W.alloc (Obj.cells #[.slice p B.boys.length cap, .int .i64 B.weeks, .slice q B.trials.length capt] 25)).alloc (Obj.cells #[.int .i64 t.boy, .int .i64 t.week, .int .i64 t.note, .int .i64 t.sang] 27)).alloc (Obj.cells #[.int .i64 n0, .int .i64 n1, .int .i64 n2] 28)) = W0 at *
  refine HC.out.mono ?_
  rintro e w2 ⟨rfl, hk2⟩
  have hkW := kept_trans hk0 hk2
  replace a0 := kcell hk2 a0
  replace a1 := kcell hk2 a1
  replace a2 := kcell hk2 a2
  replace v0 := kcell hk2 v0
  replace v1 := kcell hk2 v1
  replace v2 := kcell hk2 v2
  replace v3 := kcell hk2 v3
  replace b0 := kcell hk2 b0
  replace b1 := kcell hk2 b1
  replace b2 := kcell hk2 b2
  clear HC hk0 hk2
  have HS := Lib.hid (sung_is w2 (h.laid.kept hkW) (hg.kept hkW))
  go_wp2_with fail
  refine HS.out.mono ?_
  rintro e w3 ⟨rfl, hk3⟩
  go_wp2_with fail
  refine bodyPost_ret (v := .bool true) (by simp [results, Tryd.results3, go_sem]) rfl ?_
  exact ⟨rfl, kept_trans hkW hk3⟩

set_option maxHeartbeats 100000000 in
theorem more_full (p q : Option Addr) (cap capt : Nat) (B : Book) (t : Trial) (n0 n1 n2 : Int) (W : World) (h : BookAt W p q cap capt B) (hg : Nothing W) (hok : B.okB = true) (h6 : B.trials.length = 6) :
    Calls Tryd.prog 3 #[B.val p q cap capt, .agg #[.int .i64 t.boy, .int .i64 t.week, .int .i64 t.note, .int .i64 t.sang], .agg #[.int .i64 n0, .int .i64 n1, .int .i64 n2]] W fun e C => e = .returned (.bool true) ∧ Kept W C := by
  have hk0 : Kept W (((W.alloc (Obj.cells #[.slice p B.boys.length cap, .int .i64 B.weeks, .slice q B.trials.length capt] 25)).alloc (Obj.cells #[.int .i64 t.boy, .int .i64 t.week, .int .i64 t.note, .int .i64 t.sang] 27)).alloc (Obj.cells #[.int .i64 n0, .int .i64 n1, .int .i64 n2] 28)) := kept_alloc (kept_alloc (kept_alloc (kept_refl _) _) _) _
  have hcall := small_any p q cap capt B _ (h.kept hk0)
  rw [hok] at hcall
  unfold Book.val at hcall ⊢
  rw [h6] at hcall hk0 ⊢
  have HC := Lib.hid hcall; clear hcall
  have a0 : (((W.alloc (Obj.cells #[.slice p B.boys.length cap, .int .i64 B.weeks, .slice q 6 capt] 25)).alloc (Obj.cells #[.int .i64 t.boy, .int .i64 t.week, .int .i64 t.note, .int .i64 t.sang] 27)).alloc (Obj.cells #[.int .i64 n0, .int .i64 n1, .int .i64 n2] 28)).cell? ⟨W.heap.size, 0, none⟩ = some (.slice p B.boys.length cap) := by go_simp
  have a1 : (((W.alloc (Obj.cells #[.slice p B.boys.length cap, .int .i64 B.weeks, .slice q 6 capt] 25)).alloc (Obj.cells #[.int .i64 t.boy, .int .i64 t.week, .int .i64 t.note, .int .i64 t.sang] 27)).alloc (Obj.cells #[.int .i64 n0, .int .i64 n1, .int .i64 n2] 28)).cell? ⟨W.heap.size, 1, none⟩ = some (.int .i64 B.weeks) := by go_simp
  have a2 : (((W.alloc (Obj.cells #[.slice p B.boys.length cap, .int .i64 B.weeks, .slice q 6 capt] 25)).alloc (Obj.cells #[.int .i64 t.boy, .int .i64 t.week, .int .i64 t.note, .int .i64 t.sang] 27)).alloc (Obj.cells #[.int .i64 n0, .int .i64 n1, .int .i64 n2] 28)).cell? ⟨W.heap.size, 2, none⟩ = some (.slice q 6 capt) := by go_simp
  have v0 : (((W.alloc (Obj.cells #[.slice p B.boys.length cap, .int .i64 B.weeks, .slice q 6 capt] 25)).alloc (Obj.cells #[.int .i64 t.boy, .int .i64 t.week, .int .i64 t.note, .int .i64 t.sang] 27)).alloc (Obj.cells #[.int .i64 n0, .int .i64 n1, .int .i64 n2] 28)).cell? ⟨W.heap.size + 1, 0, none⟩ = some (.int .i64 t.boy) := by go_simp
  have v1 : (((W.alloc (Obj.cells #[.slice p B.boys.length cap, .int .i64 B.weeks, .slice q 6 capt] 25)).alloc (Obj.cells #[.int .i64 t.boy, .int .i64 t.week, .int .i64 t.note, .int .i64 t.sang] 27)).alloc (Obj.cells #[.int .i64 n0, .int .i64 n1, .int .i64 n2] 28)).cell? ⟨W.heap.size + 1, 1, none⟩ = some (.int .i64 t.week) := by go_simp
  have v2 : (((W.alloc (Obj.cells #[.slice p B.boys.length cap, .int .i64 B.weeks, .slice q 6 capt] 25)).alloc (Obj.cells #[.int .i64 t.boy, .int .i64 t.week, .int .i64 t.note, .int .i64 t.sang] 27)).alloc (Obj.cells #[.int .i64 n0, .int .i64 n1, .int .i64 n2] 28)).cell? ⟨W.heap.size + 1, 2, none⟩ = some (.int .i64 t.note) := by go_simp
  have v3 : (((W.alloc (Obj.cells #[.slice p B.boys.length cap, .int .i64 B.weeks, .slice q 6 capt] 25)).alloc (Obj.cells #[.int .i64 t.boy, .int .i64 t.week, .int .i64 t.note, .int .i64 t.sang] 27)).alloc (Obj.cells #[.int .i64 n0, .int .i64 n1, .int .i64 n2] 28)).cell? ⟨W.heap.size + 1, 3, none⟩ = some (.int .i64 t.sang) := by go_simp
  have b0 : (((W.alloc (Obj.cells #[.slice p B.boys.length cap, .int .i64 B.weeks, .slice q 6 capt] 25)).alloc (Obj.cells #[.int .i64 t.boy, .int .i64 t.week, .int .i64 t.note, .int .i64 t.sang] 27)).alloc (Obj.cells #[.int .i64 n0, .int .i64 n1, .int .i64 n2] 28)).cell? ⟨W.heap.size + 1 + 1, 0, none⟩ = some (.int .i64 n0) := by go_simp
  have b1 : (((W.alloc (Obj.cells #[.slice p B.boys.length cap, .int .i64 B.weeks, .slice q 6 capt] 25)).alloc (Obj.cells #[.int .i64 t.boy, .int .i64 t.week, .int .i64 t.note, .int .i64 t.sang] 27)).alloc (Obj.cells #[.int .i64 n0, .int .i64 n1, .int .i64 n2] 28)).cell? ⟨W.heap.size + 1 + 1, 1, none⟩ = some (.int .i64 n1) := by go_simp
  have b2 : (((W.alloc (Obj.cells #[.slice p B.boys.length cap, .int .i64 B.weeks, .slice q 6 capt] 25)).alloc (Obj.cells #[.int .i64 t.boy, .int .i64 t.week, .int .i64 t.note, .int .i64 t.sang] 27)).alloc (Obj.cells #[.int .i64 n0, .int .i64 n1, .int .i64 n2] 28)).cell? ⟨W.heap.size + 1 + 1, 2, none⟩ = some (.int .i64 n2) := by go_simp
  go_enter Tryd.func3, Tryd.ntmps3
  go_wp2_with fail
  generalize (((W.alloc (Obj.cells #[.slice p B.boys.length cap, .int .i64 B.weeks, .slice q 6 capt] 25)).alloc (Obj.cells #[.int .i64 t.boy, .int .i64 t.week, .int .i64 t.note, .int .i64 t.sang] 27)).alloc (Obj.cells #[.int .i64 n0, .int .i64 n1, .int .i64 n2] 28)) = W0 at *
  refine HC.out.mono ?_
  rintro e w2 ⟨rfl, hk2⟩
  have hkW := kept_trans hk0 hk2
  replace a0 := kcell hk2 a0
  replace a1 := kcell hk2 a1
  replace a2 := kcell hk2 a2
  replace v0 := kcell hk2 v0
  replace v1 := kcell hk2 v1
  replace v2 := kcell hk2 v2
  replace v3 := kcell hk2 v3
  replace b0 := kcell hk2 b0
  replace b1 := kcell hk2 b1
  replace b2 := kcell hk2 b2
  clear HC hk0 hk2
  have HS := Lib.hid (sung_is w2 (h.laid.kept hkW) (hg.kept hkW))
  go_wp2_with fail
  refine HS.out.mono ?_
  rintro e w3 ⟨rfl, hk3⟩
  go_wp2_with fail
  refine bodyPost_ret (v := .bool true) (by simp [results, Tryd.results3, go_sem]) rfl ?_
  exact ⟨rfl, kept_trans hkW hk3⟩

set_option maxHeartbeats 100000000 in
theorem more_bad (p q : Option Addr) (cap capt : Nat) (B : Book) (t : Trial) (n0 n1 n2 : Int) (W : World) (h : BookAt W p q cap capt B) (hg : Nothing W) (hok : B.okB = true) (h6 : B.trials.length ≤ 5) (hokX : (B.more t).okB = false) :
    Calls Tryd.prog 3 #[B.val p q cap capt, .agg #[.int .i64 t.boy, .int .i64 t.week, .int .i64 t.note, .int .i64 t.sang], .agg #[.int .i64 n0, .int .i64 n1, .int .i64 n2]] W fun e C => e = .returned (.bool true) ∧ Kept W C := by
  have hk0 : Kept W (((W.alloc (Obj.cells #[.slice p B.boys.length cap, .int .i64 B.weeks, .slice q B.trials.length capt] 25)).alloc (Obj.cells #[.int .i64 t.boy, .int .i64 t.week, .int .i64 t.note, .int .i64 t.sang] 27)).alloc (Obj.cells #[.int .i64 n0, .int .i64 n1, .int .i64 n2] 28)) := kept_alloc (kept_alloc (kept_alloc (kept_refl _) _) _) _
  have hcall := small_any p q cap capt B _ (h.kept hk0)
  rw [hok] at hcall
  unfold Book.val at hcall ⊢
  have HC := Lib.hid hcall; clear hcall
  have a0 : (((W.alloc (Obj.cells #[.slice p B.boys.length cap, .int .i64 B.weeks, .slice q B.trials.length capt] 25)).alloc (Obj.cells #[.int .i64 t.boy, .int .i64 t.week, .int .i64 t.note, .int .i64 t.sang] 27)).alloc (Obj.cells #[.int .i64 n0, .int .i64 n1, .int .i64 n2] 28)).cell? ⟨W.heap.size, 0, none⟩ = some (.slice p B.boys.length cap) := by go_simp
  have a1 : (((W.alloc (Obj.cells #[.slice p B.boys.length cap, .int .i64 B.weeks, .slice q B.trials.length capt] 25)).alloc (Obj.cells #[.int .i64 t.boy, .int .i64 t.week, .int .i64 t.note, .int .i64 t.sang] 27)).alloc (Obj.cells #[.int .i64 n0, .int .i64 n1, .int .i64 n2] 28)).cell? ⟨W.heap.size, 1, none⟩ = some (.int .i64 B.weeks) := by go_simp
  have a2 : (((W.alloc (Obj.cells #[.slice p B.boys.length cap, .int .i64 B.weeks, .slice q B.trials.length capt] 25)).alloc (Obj.cells #[.int .i64 t.boy, .int .i64 t.week, .int .i64 t.note, .int .i64 t.sang] 27)).alloc (Obj.cells #[.int .i64 n0, .int .i64 n1, .int .i64 n2] 28)).cell? ⟨W.heap.size, 2, none⟩ = some (.slice q B.trials.length capt) := by go_simp
  have v0 : (((W.alloc (Obj.cells #[.slice p B.boys.length cap, .int .i64 B.weeks, .slice q B.trials.length capt] 25)).alloc (Obj.cells #[.int .i64 t.boy, .int .i64 t.week, .int .i64 t.note, .int .i64 t.sang] 27)).alloc (Obj.cells #[.int .i64 n0, .int .i64 n1, .int .i64 n2] 28)).cell? ⟨W.heap.size + 1, 0, none⟩ = some (.int .i64 t.boy) := by go_simp
  have v1 : (((W.alloc (Obj.cells #[.slice p B.boys.length cap, .int .i64 B.weeks, .slice q B.trials.length capt] 25)).alloc (Obj.cells #[.int .i64 t.boy, .int .i64 t.week, .int .i64 t.note, .int .i64 t.sang] 27)).alloc (Obj.cells #[.int .i64 n0, .int .i64 n1, .int .i64 n2] 28)).cell? ⟨W.heap.size + 1, 1, none⟩ = some (.int .i64 t.week) := by go_simp
  have v2 : (((W.alloc (Obj.cells #[.slice p B.boys.length cap, .int .i64 B.weeks, .slice q B.trials.length capt] 25)).alloc (Obj.cells #[.int .i64 t.boy, .int .i64 t.week, .int .i64 t.note, .int .i64 t.sang] 27)).alloc (Obj.cells #[.int .i64 n0, .int .i64 n1, .int .i64 n2] 28)).cell? ⟨W.heap.size + 1, 2, none⟩ = some (.int .i64 t.note) := by go_simp
  have v3 : (((W.alloc (Obj.cells #[.slice p B.boys.length cap, .int .i64 B.weeks, .slice q B.trials.length capt] 25)).alloc (Obj.cells #[.int .i64 t.boy, .int .i64 t.week, .int .i64 t.note, .int .i64 t.sang] 27)).alloc (Obj.cells #[.int .i64 n0, .int .i64 n1, .int .i64 n2] 28)).cell? ⟨W.heap.size + 1, 3, none⟩ = some (.int .i64 t.sang) := by go_simp
  have b0 : (((W.alloc (Obj.cells #[.slice p B.boys.length cap, .int .i64 B.weeks, .slice q B.trials.length capt] 25)).alloc (Obj.cells #[.int .i64 t.boy, .int .i64 t.week, .int .i64 t.note, .int .i64 t.sang] 27)).alloc (Obj.cells #[.int .i64 n0, .int .i64 n1, .int .i64 n2] 28)).cell? ⟨W.heap.size + 1 + 1, 0, none⟩ = some (.int .i64 n0) := by go_simp
  have b1 : (((W.alloc (Obj.cells #[.slice p B.boys.length cap, .int .i64 B.weeks, .slice q B.trials.length capt] 25)).alloc (Obj.cells #[.int .i64 t.boy, .int .i64 t.week, .int .i64 t.note, .int .i64 t.sang] 27)).alloc (Obj.cells #[.int .i64 n0, .int .i64 n1, .int .i64 n2] 28)).cell? ⟨W.heap.size + 1 + 1, 1, none⟩ = some (.int .i64 n1) := by go_simp
  have b2 : (((W.alloc (Obj.cells #[.slice p B.boys.length cap, .int .i64 B.weeks, .slice q B.trials.length capt] 25)).alloc (Obj.cells #[.int .i64 t.boy, .int .i64 t.week, .int .i64 t.note, .int .i64 t.sang] 27)).alloc (Obj.cells #[.int .i64 n0, .int .i64 n1, .int .i64 n2] 28)).cell? ⟨W.heap.size + 1 + 1, 2, none⟩ = some (.int .i64 n2) := by go_simp
  go_enter Tryd.func3, Tryd.ntmps3
  go_wp2_with fail
  generalize (((W.alloc (Obj.cells #[.slice p B.boys.length cap, .int .i64 B.weeks, .slice q B.trials.length capt] 25)).alloc (Obj.cells #[.int .i64 t.boy, .int .i64 t.week, .int .i64 t.note, .int .i64 t.sang] 27)).alloc (Obj.cells #[.int .i64 n0, .int .i64 n1, .int .i64 n2] 28)) = W0 at *
  refine HC.out.mono ?_
  rintro e w2 ⟨rfl, hk2⟩
  have hkW := kept_trans hk0 hk2
  replace a0 := kcell hk2 a0
  replace a1 := kcell hk2 a1
  replace a2 := kcell hk2 a2
  replace v0 := kcell hk2 v0
  replace v1 := kcell hk2 v1
  replace v2 := kcell hk2 v2
  replace v3 := kcell hk2 v3
  replace b0 := kcell hk2 b0
  replace b1 := kcell hk2 b1
  replace b2 := kcell hk2 b2
  clear HC hk0 hk2
  obtain ⟨⟨q1, q2, q3, q4, q5⟩, -, -⟩ := okB_boys hok
  have hm6 : ((B.trials.length : Int) == 6) = false := by simp; omega
  have hm6' : ¬ (B.trials.length : Int) = 6 := by omega
  have HB := Lib.hid h
  have HG := Lib.hid hg
  have h1 := lwith_any p q cap capt B t w2 (h.kept hkW) (by omega)
  unfold Book.val at h1
  have H1 := Lib.hid h1; clear h1 h hg
  go_wp2_with fail
  refine H1.out.mono ?_
  rintro e V4 ⟨q', capt', rfl, hk4, hBX⟩
  clear H1
  have hkW := kept_trans hkW hk4
  replace a0 := kcell hk4 a0
  replace a1 := kcell hk4 a1
  replace a2 := kcell hk4 a2
  replace v0 := kcell hk4 v0
  replace v1 := kcell hk4 v1
  replace v2 := kcell hk4 v2
  replace v3 := kcell hk4 v3
  replace b0 := kcell hk4 b0
  replace b1 := kcell hk4 b1
  replace b2 := kcell hk4 b2
  have hz0 := Go.Ai.lt_of_cell a0
  have hz1 := Go.Ai.lt_of_cell v0
  have hz2 := Go.Ai.lt_of_cell b0
  have kb : Kept V4 (V4.alloc (Obj.cells #[.slice p (B.more t).boys.length cap, .int .i64 (B.more t).weeks, .slice q' (B.more t).trials.length capt'] 25)) := kept_alloc (kept_refl _) _
  have hkW := kept_trans hkW kb
  have hBX := hBX.kept kb
  replace a0 := kcell kb a0
  replace a1 := kcell kb a1
  replace a2 := kcell kb a2
  replace v0 := kcell kb v0
  replace v1 := kcell kb v1
  replace v2 := kcell kb v2
  replace v3 := kcell kb v3
  replace b0 := kcell kb b0
  replace b1 := kcell kb b1
  replace b2 := kcell kb b2
  have x0 : (V4.alloc (Obj.cells #[.slice p (B.more t).boys.length cap, .int .i64 (B.more t).weeks, .slice q' (B.more t).trials.length capt'] 25)).cell? ⟨V4.heap.size, 0, none⟩ = some (.slice p (B.more t).boys.length cap) := by go_simp
  have x1 : (V4.alloc (Obj.cells #[.slice p (B.more t).boys.length cap, .int .i64 (B.more t).weeks, .slice q' (B.more t).trials.length capt'] 25)).cell? ⟨V4.heap.size, 1, none⟩ = some (.int .i64 (B.more t).weeks) := by go_simp
  have x2 : (V4.alloc (Obj.cells #[.slice p (B.more t).boys.length cap, .int .i64 (B.more t).weeks, .slice q' (B.more t).trials.length capt'] 25)).cell? ⟨V4.heap.size, 2, none⟩ = some (.slice q' (B.more t).trials.length capt') := by go_simp
  have h1 := fits_any p q cap capt B t (V4.alloc (Obj.cells #[.slice p (B.more t).boys.length cap, .int .i64 (B.more t).weeks, .slice q' (B.more t).trials.length capt'] 25)) (HB.out.kept hkW) (HG.out.kept hkW) hok (by omega)
  unfold Book.val at h1
  have H1 := Lib.hid h1; clear h1
  generalize hX : B.more t = X at kb hkW hBX H1 a0 a1 a2 v0 v1 v2 v3 b0 b1 b2 x0 x1 x2 ⊢
  have HX := Lib.hid hX.symm; clear hX
  have HBX := Lib.hid hBX; clear hBX
  go_wp2_with fail
  generalize hxb : V4.heap.size = xb at *
  generalize V4.alloc (Obj.cells #[.slice p X.boys.length cap, .int .i64 X.weeks, .slice q' X.trials.length capt'] 25) = V5 at *
  clear hxb kb hk4 hz0 hz1 hz2
  refine H1.out.mono ?_
  rintro e V6 ⟨r, err, rfl, hk6, hr⟩
  clear H1
  have hkW := kept_trans hkW hk6
  have HBX := Lib.hid (HBX.out.kept hk6)
  replace a0 := kcell hk6 a0
  replace a1 := kcell hk6 a1
  replace a2 := kcell hk6 a2
  replace v0 := kcell hk6 v0
  replace v1 := kcell hk6 v1
  replace v2 := kcell hk6 v2
  replace v3 := kcell hk6 v3
  replace b0 := kcell hk6 b0
  replace b1 := kcell hk6 b1
  replace b2 := kcell hk6 b2
  replace x0 := kcell hk6 x0
  replace x1 := kcell hk6 x1
  replace x2 := kcell hk6 x2
  have HR := Lib.hid hr; clear hr
  obtain ⟨rfl, rfl⟩ : r = false ∧ err = 21 := by
    rcases HR.out with ⟨_, e, _⟩ | ⟨e1, e2, _⟩ | ⟨_, _, e, _⟩
    · rw [hokX] at e; cases e
    · exact ⟨e1, e2⟩
    · rw [hokX] at e; cases e
  clear HR
  rw [← HX.out] at hokX
  have h1 := right_bad p q' cap capt' X V6 HBX.out hokX
  unfold Book.val at h1
  have H1 := Lib.hid h1; clear h1
  go_wp2_with fail
  refine H1.out.mono ?_
  rintro e V7 ⟨rfl, hk7⟩
  clear H1
  have hkW := kept_trans hkW hk7
  have HBX := Lib.hid (HBX.out.kept hk7)
  replace a0 := kcell hk7 a0
  replace a1 := kcell hk7 a1
  replace a2 := kcell hk7 a2
  replace v0 := kcell hk7 v0
  replace v1 := kcell hk7 v1
  replace v2 := kcell hk7 v2
  replace v3 := kcell hk7 v3
  replace b0 := kcell hk7 b0
  replace b1 := kcell hk7 b1
  replace b2 := kcell hk7 b2
  replace x0 := kcell hk7 x0
  replace x1 := kcell hk7 x1
  replace x2 := kcell hk7 x2
  have HS := Lib.hid (sung_is V7 (HB.out.laid.kept hkW) (HG.out.kept hkW))
  go_wp2_with fail
  refine HS.out.mono ?_
  rintro e w3 ⟨rfl, hk3⟩
  go_wp2_with fail
  refine bodyPost_ret (v := .bool true) (by simp [results, Tryd.results3, go_sem]) rfl ?_
  exact ⟨rfl, kept_trans hkW hk3⟩

set_option maxHeartbeats 100000000 in
theorem more_no (p q : Option Addr) (cap capt : Nat) (B : Book) (t : Trial) (n0 n1 n2 : Int) (W : World) (h : BookAt W p q cap capt B) (hg : Nothing W) (hok : B.okB = true) (h6 : B.trials.length ≤ 5) (hokX : (B.more t).okB = true) (hcan : ¬ Can (B.more t)) :
    Calls Tryd.prog 3 #[B.val p q cap capt, .agg #[.int .i64 t.boy, .int .i64 t.week, .int .i64 t.note, .int .i64 t.sang], .agg #[.int .i64 n0, .int .i64 n1, .int .i64 n2]] W fun e C => e = .returned (.bool true) ∧ Kept W C := by
  have hk0 : Kept W (((W.alloc (Obj.cells #[.slice p B.boys.length cap, .int .i64 B.weeks, .slice q B.trials.length capt] 25)).alloc (Obj.cells #[.int .i64 t.boy, .int .i64 t.week, .int .i64 t.note, .int .i64 t.sang] 27)).alloc (Obj.cells #[.int .i64 n0, .int .i64 n1, .int .i64 n2] 28)) := kept_alloc (kept_alloc (kept_alloc (kept_refl _) _) _) _
  have hcall := small_any p q cap capt B _ (h.kept hk0)
  rw [hok] at hcall
  unfold Book.val at hcall ⊢
  have HC := Lib.hid hcall; clear hcall
  have a0 : (((W.alloc (Obj.cells #[.slice p B.boys.length cap, .int .i64 B.weeks, .slice q B.trials.length capt] 25)).alloc (Obj.cells #[.int .i64 t.boy, .int .i64 t.week, .int .i64 t.note, .int .i64 t.sang] 27)).alloc (Obj.cells #[.int .i64 n0, .int .i64 n1, .int .i64 n2] 28)).cell? ⟨W.heap.size, 0, none⟩ = some (.slice p B.boys.length cap) := by go_simp
  have a1 : (((W.alloc (Obj.cells #[.slice p B.boys.length cap, .int .i64 B.weeks, .slice q B.trials.length capt] 25)).alloc (Obj.cells #[.int .i64 t.boy, .int .i64 t.week, .int .i64 t.note, .int .i64 t.sang] 27)).alloc (Obj.cells #[.int .i64 n0, .int .i64 n1, .int .i64 n2] 28)).cell? ⟨W.heap.size, 1, none⟩ = some (.int .i64 B.weeks) := by go_simp
  have a2 : (((W.alloc (Obj.cells #[.slice p B.boys.length cap, .int .i64 B.weeks, .slice q B.trials.length capt] 25)).alloc (Obj.cells #[.int .i64 t.boy, .int .i64 t.week, .int .i64 t.note, .int .i64 t.sang] 27)).alloc (Obj.cells #[.int .i64 n0, .int .i64 n1, .int .i64 n2] 28)).cell? ⟨W.heap.size, 2, none⟩ = some (.slice q B.trials.length capt) := by go_simp
  have v0 : (((W.alloc (Obj.cells #[.slice p B.boys.length cap, .int .i64 B.weeks, .slice q B.trials.length capt] 25)).alloc (Obj.cells #[.int .i64 t.boy, .int .i64 t.week, .int .i64 t.note, .int .i64 t.sang] 27)).alloc (Obj.cells #[.int .i64 n0, .int .i64 n1, .int .i64 n2] 28)).cell? ⟨W.heap.size + 1, 0, none⟩ = some (.int .i64 t.boy) := by go_simp
  have v1 : (((W.alloc (Obj.cells #[.slice p B.boys.length cap, .int .i64 B.weeks, .slice q B.trials.length capt] 25)).alloc (Obj.cells #[.int .i64 t.boy, .int .i64 t.week, .int .i64 t.note, .int .i64 t.sang] 27)).alloc (Obj.cells #[.int .i64 n0, .int .i64 n1, .int .i64 n2] 28)).cell? ⟨W.heap.size + 1, 1, none⟩ = some (.int .i64 t.week) := by go_simp
  have v2 : (((W.alloc (Obj.cells #[.slice p B.boys.length cap, .int .i64 B.weeks, .slice q B.trials.length capt] 25)).alloc (Obj.cells #[.int .i64 t.boy, .int .i64 t.week, .int .i64 t.note, .int .i64 t.sang] 27)).alloc (Obj.cells #[.int .i64 n0, .int .i64 n1, .int .i64 n2] 28)).cell? ⟨W.heap.size + 1, 2, none⟩ = some (.int .i64 t.note) := by go_simp
  have v3 : (((W.alloc (Obj.cells #[.slice p B.boys.length cap, .int .i64 B.weeks, .slice q B.trials.length capt] 25)).alloc (Obj.cells #[.int .i64 t.boy, .int .i64 t.week, .int .i64 t.note, .int .i64 t.sang] 27)).alloc (Obj.cells #[.int .i64 n0, .int .i64 n1, .int .i64 n2] 28)).cell? ⟨W.heap.size + 1, 3, none⟩ = some (.int .i64 t.sang) := by go_simp
  have b0 : (((W.alloc (Obj.cells #[.slice p B.boys.length cap, .int .i64 B.weeks, .slice q B.trials.length capt] 25)).alloc (Obj.cells #[.int .i64 t.boy, .int .i64 t.week, .int .i64 t.note, .int .i64 t.sang] 27)).alloc (Obj.cells #[.int .i64 n0, .int .i64 n1, .int .i64 n2] 28)).cell? ⟨W.heap.size + 1 + 1, 0, none⟩ = some (.int .i64 n0) := by go_simp
  have b1 : (((W.alloc (Obj.cells #[.slice p B.boys.length cap, .int .i64 B.weeks, .slice q B.trials.length capt] 25)).alloc (Obj.cells #[.int .i64 t.boy, .int .i64 t.week, .int .i64 t.note, .int .i64 t.sang] 27)).alloc (Obj.cells #[.int .i64 n0, .int .i64 n1, .int .i64 n2] 28)).cell? ⟨W.heap.size + 1 + 1, 1, none⟩ = some (.int .i64 n1) := by go_simp
  have b2 : (((W.alloc (Obj.cells #[.slice p B.boys.length cap, .int .i64 B.weeks, .slice q B.trials.length capt] 25)).alloc (Obj.cells #[.int .i64 t.boy, .int .i64 t.week, .int .i64 t.note, .int .i64 t.sang] 27)).alloc (Obj.cells #[.int .i64 n0, .int .i64 n1, .int .i64 n2] 28)).cell? ⟨W.heap.size + 1 + 1, 2, none⟩ = some (.int .i64 n2) := by go_simp
  go_enter Tryd.func3, Tryd.ntmps3
  go_wp2_with fail
  generalize (((W.alloc (Obj.cells #[.slice p B.boys.length cap, .int .i64 B.weeks, .slice q B.trials.length capt] 25)).alloc (Obj.cells #[.int .i64 t.boy, .int .i64 t.week, .int .i64 t.note, .int .i64 t.sang] 27)).alloc (Obj.cells #[.int .i64 n0, .int .i64 n1, .int .i64 n2] 28)) = W0 at *
  refine HC.out.mono ?_
  rintro e w2 ⟨rfl, hk2⟩
  have hkW := kept_trans hk0 hk2
  replace a0 := kcell hk2 a0
  replace a1 := kcell hk2 a1
  replace a2 := kcell hk2 a2
  replace v0 := kcell hk2 v0
  replace v1 := kcell hk2 v1
  replace v2 := kcell hk2 v2
  replace v3 := kcell hk2 v3
  replace b0 := kcell hk2 b0
  replace b1 := kcell hk2 b1
  replace b2 := kcell hk2 b2
  clear HC hk0 hk2
  obtain ⟨⟨q1, q2, q3, q4, q5⟩, -, -⟩ := okB_boys hok
  have hm6 : ((B.trials.length : Int) == 6) = false := by simp; omega
  have hm6' : ¬ (B.trials.length : Int) = 6 := by omega
  have HB := Lib.hid h
  have HG := Lib.hid hg
  have h1 := lwith_any p q cap capt B t w2 (h.kept hkW) (by omega)
  unfold Book.val at h1
  have H1 := Lib.hid h1; clear h1 h hg
  go_wp2_with fail
  refine H1.out.mono ?_
  rintro e V4 ⟨q', capt', rfl, hk4, hBX⟩
  clear H1
  have hkW := kept_trans hkW hk4
  replace a0 := kcell hk4 a0
  replace a1 := kcell hk4 a1
  replace a2 := kcell hk4 a2
  replace v0 := kcell hk4 v0
  replace v1 := kcell hk4 v1
  replace v2 := kcell hk4 v2
  replace v3 := kcell hk4 v3
  replace b0 := kcell hk4 b0
  replace b1 := kcell hk4 b1
  replace b2 := kcell hk4 b2
  have hz0 := Go.Ai.lt_of_cell a0
  have hz1 := Go.Ai.lt_of_cell v0
  have hz2 := Go.Ai.lt_of_cell b0
  have kb : Kept V4 (V4.alloc (Obj.cells #[.slice p (B.more t).boys.length cap, .int .i64 (B.more t).weeks, .slice q' (B.more t).trials.length capt'] 25)) := kept_alloc (kept_refl _) _
  have hkW := kept_trans hkW kb
  have hBX := hBX.kept kb
  replace a0 := kcell kb a0
  replace a1 := kcell kb a1
  replace a2 := kcell kb a2
  replace v0 := kcell kb v0
  replace v1 := kcell kb v1
  replace v2 := kcell kb v2
  replace v3 := kcell kb v3
  replace b0 := kcell kb b0
  replace b1 := kcell kb b1
  replace b2 := kcell kb b2
  have x0 : (V4.alloc (Obj.cells #[.slice p (B.more t).boys.length cap, .int .i64 (B.more t).weeks, .slice q' (B.more t).trials.length capt'] 25)).cell? ⟨V4.heap.size, 0, none⟩ = some (.slice p (B.more t).boys.length cap) := by go_simp
  have x1 : (V4.alloc (Obj.cells #[.slice p (B.more t).boys.length cap, .int .i64 (B.more t).weeks, .slice q' (B.more t).trials.length capt'] 25)).cell? ⟨V4.heap.size, 1, none⟩ = some (.int .i64 (B.more t).weeks) := by go_simp
  have x2 : (V4.alloc (Obj.cells #[.slice p (B.more t).boys.length cap, .int .i64 (B.more t).weeks, .slice q' (B.more t).trials.length capt'] 25)).cell? ⟨V4.heap.size, 2, none⟩ = some (.slice q' (B.more t).trials.length capt') := by go_simp
  have h1 := fits_any p q cap capt B t (V4.alloc (Obj.cells #[.slice p (B.more t).boys.length cap, .int .i64 (B.more t).weeks, .slice q' (B.more t).trials.length capt'] 25)) (HB.out.kept hkW) (HG.out.kept hkW) hok (by omega)
  unfold Book.val at h1
  have H1 := Lib.hid h1; clear h1
  generalize hX : B.more t = X at kb hkW hBX H1 a0 a1 a2 v0 v1 v2 v3 b0 b1 b2 x0 x1 x2 ⊢
  have HX := Lib.hid hX.symm; clear hX
  have HBX := Lib.hid hBX; clear hBX
  go_wp2_with fail
  generalize hxb : V4.heap.size = xb at *
  generalize V4.alloc (Obj.cells #[.slice p X.boys.length cap, .int .i64 X.weeks, .slice q' X.trials.length capt'] 25) = V5 at *
  clear hxb kb hk4 hz0 hz1 hz2
  refine H1.out.mono ?_
  rintro e V6 ⟨r, err, rfl, hk6, hr⟩
  clear H1
  have hkW := kept_trans hkW hk6
  have HBX := Lib.hid (HBX.out.kept hk6)
  replace a0 := kcell hk6 a0
  replace a1 := kcell hk6 a1
  replace a2 := kcell hk6 a2
  replace v0 := kcell hk6 v0
  replace v1 := kcell hk6 v1
  replace v2 := kcell hk6 v2
  replace v3 := kcell hk6 v3
  replace b0 := kcell hk6 b0
  replace b1 := kcell hk6 b1
  replace b2 := kcell hk6 b2
  replace x0 := kcell hk6 x0
  replace x1 := kcell hk6 x1
  replace x2 := kcell hk6 x2
  have HR := Lib.hid hr; clear hr
  obtain ⟨rfl, herr⟩ : r = false ∧ (err = 0 ∨ err = 22) := by
    rcases HR.out with ⟨e, _, _, e2⟩ | ⟨_, _, e⟩ | ⟨e1, e2, _⟩
    · refine ⟨?_, .inl e⟩
      cases r with
      | false => rfl
      | true => exact absurd (e2.1 rfl) hcan
    · rw [hokX] at e; cases e
    · exact ⟨e1, .inr e2⟩
  clear HR
  rw [← HX.out] at hokX hcan
  have h1 := right_any p q' cap capt' X V6 HBX.out (HG.out.kept hkW) hokX
  unfold Book.val at h1
  have H1 := Lib.hid h1; clear h1
  go_wp2_with fail
  refine H1.out.mono ?_
  rintro e V7 ⟨r2, rfl, hk7, hr2⟩
  clear H1
  have hkW := kept_trans hkW hk7
  have HBX := Lib.hid (HBX.out.kept hk7)
  replace a0 := kcell hk7 a0
  replace a1 := kcell hk7 a1
  replace a2 := kcell hk7 a2
  replace v0 := kcell hk7 v0
  replace v1 := kcell hk7 v1
  replace v2 := kcell hk7 v2
  replace v3 := kcell hk7 v3
  replace b0 := kcell hk7 b0
  replace b1 := kcell hk7 b1
  replace b2 := kcell hk7 b2
  replace x0 := kcell hk7 x0
  replace x1 := kcell hk7 x1
  replace x2 := kcell hk7 x2
  obtain rfl : r2 = false := by
    cases r2 with
    | false => rfl
    | true => exact absurd (hr2.1 rfl) hcan
  rcases herr with rfl | rfl
  · have HS := Lib.hid (sung_is V7 (HB.out.laid.kept hkW) (HG.out.kept hkW))
    go_wp2_with fail
    refine HS.out.mono ?_
    rintro e w3 ⟨rfl, hk3⟩
    go_wp2_with fail
    refine bodyPost_ret (v := .bool true) (by simp [results, Tryd.results3, go_sem]) rfl ?_
    exact ⟨rfl, kept_trans hkW hk3⟩
  · have HS := Lib.hid (sung_is V7 (HB.out.laid.kept hkW) (HG.out.kept hkW))
    go_wp2_with fail
    refine HS.out.mono ?_
    rintro e w3 ⟨rfl, hk3⟩
    go_wp2_with fail
    refine bodyPost_ret (v := .bool true) (by simp [results, Tryd.results3, go_sem]) rfl ?_
    exact ⟨rfl, kept_trans hkW hk3⟩
end Go.Proofs.YtchgkfnodcbpiaaDoor
set_option linter.all false
namespace Go.Proofs.YtchgkfnodcbpiaaDoor
open Go.RowKit Go.Sort Go.Rg
set_option maxRecDepth 100000

set_option maxHeartbeats 100000000 in
theorem more_yes (p q : Option Addr) (cap capt : Nat) (B : Book) (t : Trial) (n0 n1 n2 : Int) (W : World) (h : BookAt W p q cap capt B) (hg : Nothing W) (hok : B.okB = true) (h6 : B.trials.length ≤ 5) (hokX : (B.more t).okB = true) (hcan : Can (B.more t)) :
    Calls Tryd.prog 3 #[B.val p q cap capt, .agg #[.int .i64 t.boy, .int .i64 t.week, .int .i64 t.note, .int .i64 t.sang], .agg #[.int .i64 n0, .int .i64 n1, .int .i64 n2]] W fun e C => e = .returned (.bool true) ∧ Kept W C := by
  have hk0 : Kept W (((W.alloc (Obj.cells #[.slice p B.boys.length cap, .int .i64 B.weeks, .slice q B.trials.length capt] 25)).alloc (Obj.cells #[.int .i64 t.boy, .int .i64 t.week, .int .i64 t.note, .int .i64 t.sang] 27)).alloc (Obj.cells #[.int .i64 n0, .int .i64 n1, .int .i64 n2] 28)) := kept_alloc (kept_alloc (kept_alloc (kept_refl _) _) _) _
  have hcall := small_any p q cap capt B _ (h.kept hk0)
  rw [hok] at hcall
  unfold Book.val at hcall ⊢
  have HC := Lib.hid hcall; clear hcall
  have a0 : (((W.alloc (Obj.cells #[.slice p B.boys.length cap, .int .i64 B.weeks, .slice q B.trials.length capt] 25)).alloc (Obj.cells #[.int .i64 t.boy, .int .i64 t.week, .int .i64 t.note, .int .i64 t.sang] 27)).alloc (Obj.cells #[.int .i64 n0, .int .i64 n1, .int .i64 n2] 28)).cell? ⟨W.heap.size, 0, none⟩ = some (.slice p B.boys.length cap) := by go_simp
  have a1 : (((W.alloc (Obj.cells #[.slice p B.boys.length cap, .int .i64 B.weeks, .slice q B.trials.length capt] 25)).alloc (Obj.cells #[.int .i64 t.boy, .int .i64 t.week, .int .i64 t.note, .int .i64 t.sang] 27)).alloc (Obj.cells #[.int .i64 n0, .int .i64 n1, .int .i64 n2] 28)).cell? ⟨W.heap.size, 1, none⟩ = some (.int .i64 B.weeks) := by go_simp
  have a2 : (((W.alloc (Obj.cells #[.slice p B.boys.length cap, .int .i64 B.weeks, .slice q B.trials.length capt] 25)).alloc (Obj.cells #[.int .i64 t.boy, .int .i64 t.week, .int .i64 t.note, .int .i64 t.sang] 27)).alloc (Obj.cells #[.int .i64 n0, .int .i64 n1, .int .i64 n2] 28)).cell? ⟨W.heap.size, 2, none⟩ = some (.slice q B.trials.length capt) := by go_simp
  have v0 : (((W.alloc (Obj.cells #[.slice p B.boys.length cap, .int .i64 B.weeks, .slice q B.trials.length capt] 25)).alloc (Obj.cells #[.int .i64 t.boy, .int .i64 t.week, .int .i64 t.note, .int .i64 t.sang] 27)).alloc (Obj.cells #[.int .i64 n0, .int .i64 n1, .int .i64 n2] 28)).cell? ⟨W.heap.size + 1, 0, none⟩ = some (.int .i64 t.boy) := by go_simp
  have v1 : (((W.alloc (Obj.cells #[.slice p B.boys.length cap, .int .i64 B.weeks, .slice q B.trials.length capt] 25)).alloc (Obj.cells #[.int .i64 t.boy, .int .i64 t.week, .int .i64 t.note, .int .i64 t.sang] 27)).alloc (Obj.cells #[.int .i64 n0, .int .i64 n1, .int .i64 n2] 28)).cell? ⟨W.heap.size + 1, 1, none⟩ = some (.int .i64 t.week) := by go_simp
  have v2 : (((W.alloc (Obj.cells #[.slice p B.boys.length cap, .int .i64 B.weeks, .slice q B.trials.length capt] 25)).alloc (Obj.cells #[.int .i64 t.boy, .int .i64 t.week, .int .i64 t.note, .int .i64 t.sang] 27)).alloc (Obj.cells #[.int .i64 n0, .int .i64 n1, .int .i64 n2] 28)).cell? ⟨W.heap.size + 1, 2, none⟩ = some (.int .i64 t.note) := by go_simp
  have v3 : (((W.alloc (Obj.cells #[.slice p B.boys.length cap, .int .i64 B.weeks, .slice q B.trials.length capt] 25)).alloc (Obj.cells #[.int .i64 t.boy, .int .i64 t.week, .int .i64 t.note, .int .i64 t.sang] 27)).alloc (Obj.cells #[.int .i64 n0, .int .i64 n1, .int .i64 n2] 28)).cell? ⟨W.heap.size + 1, 3, none⟩ = some (.int .i64 t.sang) := by go_simp
  have b0 : (((W.alloc (Obj.cells #[.slice p B.boys.length cap, .int .i64 B.weeks, .slice q B.trials.length capt] 25)).alloc (Obj.cells #[.int .i64 t.boy, .int .i64 t.week, .int .i64 t.note, .int .i64 t.sang] 27)).alloc (Obj.cells #[.int .i64 n0, .int .i64 n1, .int .i64 n2] 28)).cell? ⟨W.heap.size + 1 + 1, 0, none⟩ = some (.int .i64 n0) := by go_simp
  have b1 : (((W.alloc (Obj.cells #[.slice p B.boys.length cap, .int .i64 B.weeks, .slice q B.trials.length capt] 25)).alloc (Obj.cells #[.int .i64 t.boy, .int .i64 t.week, .int .i64 t.note, .int .i64 t.sang] 27)).alloc (Obj.cells #[.int .i64 n0, .int .i64 n1, .int .i64 n2] 28)).cell? ⟨W.heap.size + 1 + 1, 1, none⟩ = some (.int .i64 n1) := by go_simp
  have b2 : (((W.alloc (Obj.cells #[.slice p B.boys.length cap, .int .i64 B.weeks, .slice q B.trials.length capt] 25)).alloc (Obj.cells #[.int .i64 t.boy, .int .i64 t.week, .int .i64 t.note, .int .i64 t.sang] 27)).alloc (Obj.cells #[.int .i64 n0, .int .i64 n1, .int .i64 n2] 28)).cell? ⟨W.heap.size + 1 + 1, 2, none⟩ = some (.int .i64 n2) := by go_simp
  go_enter Tryd.func3, Tryd.ntmps3
  go_wp2_with fail
  generalize (((W.alloc (Obj.cells #[.slice p B.boys.length cap, .int .i64 B.weeks, .slice q B.trials.length capt] 25)).alloc (Obj.cells #[.int .i64 t.boy, .int .i64 t.week, .int .i64 t.note, .int .i64 t.sang] 27)).alloc (Obj.cells #[.int .i64 n0, .int .i64 n1, .int .i64 n2] 28)) = W0 at *
  refine HC.out.mono ?_
  rintro e w2 ⟨rfl, hk2⟩
  have hkW := kept_trans hk0 hk2
  replace a0 := kcell hk2 a0
  replace a1 := kcell hk2 a1
  replace a2 := kcell hk2 a2
  replace v0 := kcell hk2 v0
  replace v1 := kcell hk2 v1
  replace v2 := kcell hk2 v2
  replace v3 := kcell hk2 v3
  replace b0 := kcell hk2 b0
  replace b1 := kcell hk2 b1
  replace b2 := kcell hk2 b2
  clear HC hk0 hk2
  obtain ⟨⟨q1, q2, q3, q4, q5⟩, -, -⟩ := okB_boys hok
  have hm6 : ((B.trials.length : Int) == 6) = false := by simp; omega
  have hm6' : ¬ (B.trials.length : Int) = 6 := by omega
  have HB := Lib.hid h
  have HG := Lib.hid hg
  have h1 := lwith_any p q cap capt B t w2 (h.kept hkW) (by omega)
  unfold Book.val at h1
  have H1 := Lib.hid h1; clear h1 h hg
  go_wp2_with fail
  refine H1.out.mono ?_
  rintro e V4 ⟨q', capt', rfl, hk4, hBX⟩
  clear H1
  have hkW := kept_trans hkW hk4
  replace a0 := kcell hk4 a0
  replace a1 := kcell hk4 a1
  replace a2 := kcell hk4 a2
  replace v0 := kcell hk4 v0
  replace v1 := kcell hk4 v1
  replace v2 := kcell hk4 v2
  replace v3 := kcell hk4 v3
  replace b0 := kcell hk4 b0
  replace b1 := kcell hk4 b1
  replace b2 := kcell hk4 b2
  have hz0 := Go.Ai.lt_of_cell a0
  have hz1 := Go.Ai.lt_of_cell v0
  have hz2 := Go.Ai.lt_of_cell b0
  have kb : Kept V4 (V4.alloc (Obj.cells #[.slice p (B.more t).boys.length cap, .int .i64 (B.more t).weeks, .slice q' (B.more t).trials.length capt'] 25)) := kept_alloc (kept_refl _) _
  have hkW := kept_trans hkW kb
  have hBX := hBX.kept kb
  replace a0 := kcell kb a0
  replace a1 := kcell kb a1
  replace a2 := kcell kb a2
  replace v0 := kcell kb v0
  replace v1 := kcell kb v1
  replace v2 := kcell kb v2
  replace v3 := kcell kb v3
  replace b0 := kcell kb b0
  replace b1 := kcell kb b1
  replace b2 := kcell kb b2
  have x0 : (V4.alloc (Obj.cells #[.slice p (B.more t).boys.length cap, .int .i64 (B.more t).weeks, .slice q' (B.more t).trials.length capt'] 25)).cell? ⟨V4.heap.size, 0, none⟩ = some (.slice p (B.more t).boys.length cap) := by go_simp
  have x1 : (V4.alloc (Obj.cells #[.slice p (B.more t).boys.length cap, .int .i64 (B.more t).weeks, .slice q' (B.more t).trials.length capt'] 25)).cell? ⟨V4.heap.size, 1, none⟩ = some (.int .i64 (B.more t).weeks) := by go_simp
  have x2 : (V4.alloc (Obj.cells #[.slice p (B.more t).boys.length cap, .int .i64 (B.more t).weeks, .slice q' (B.more t).trials.length capt'] 25)).cell? ⟨V4.heap.size, 2, none⟩ = some (.slice q' (B.more t).trials.length capt') := by go_simp
  have h1 := fits_any p q cap capt B t (V4.alloc (Obj.cells #[.slice p (B.more t).boys.length cap, .int .i64 (B.more t).weeks, .slice q' (B.more t).trials.length capt'] 25)) (HB.out.kept hkW) (HG.out.kept hkW) hok (by omega)
  unfold Book.val at h1
  have H1 := Lib.hid h1; clear h1
  generalize hX : B.more t = X at kb hkW hBX H1 a0 a1 a2 v0 v1 v2 v3 b0 b1 b2 x0 x1 x2 ⊢
  have HX := Lib.hid hX.symm; clear hX
  have HBX := Lib.hid hBX; clear hBX
  go_wp2_with fail
  generalize hxb : V4.heap.size = xb at *
  generalize V4.alloc (Obj.cells #[.slice p X.boys.length cap, .int .i64 X.weeks, .slice q' X.trials.length capt'] 25) = V5 at *
  clear hxb kb hk4 hz0 hz1 hz2
  refine H1.out.mono ?_
  rintro e V6 ⟨r, err, rfl, hk6, hr⟩
  clear H1
  have hkW := kept_trans hkW hk6
  have HBX := Lib.hid (HBX.out.kept hk6)
  replace a0 := kcell hk6 a0
  replace a1 := kcell hk6 a1
  replace a2 := kcell hk6 a2
  replace v0 := kcell hk6 v0
  replace v1 := kcell hk6 v1
  replace v2 := kcell hk6 v2
  replace v3 := kcell hk6 v3
  replace b0 := kcell hk6 b0
  replace b1 := kcell hk6 b1
  replace b2 := kcell hk6 b2
  replace x0 := kcell hk6 x0
  replace x1 := kcell hk6 x1
  replace x2 := kcell hk6 x2
  have HR := Lib.hid hr; clear hr
  obtain ⟨rfl, rfl⟩ : r = true ∧ err = 0 := by
    rcases HR.out with ⟨e, _, _, e2⟩ | ⟨_, _, e⟩ | ⟨_, _, _, hn⟩
    · exact ⟨e2.2 hcan, e⟩
    · rw [hokX] at e; cases e
    · exact absurd (more_can hcan) hn
  have hcanB := more_can hcan
  clear HR
  have hcanM := Lib.hid hcan
  rw [← HX.out] at hokX hcan
  have h1 := right_any p q' cap capt' X V6 HBX.out (HG.out.kept hkW) hokX
  unfold Book.val at h1
  have H1 := Lib.hid h1; clear h1
  go_wp2_with fail
  refine H1.out.mono ?_
  rintro e V7 ⟨r2, rfl, hk7, hr2⟩
  clear H1
  have hkW := kept_trans hkW hk7
  have HBX := Lib.hid (HBX.out.kept hk7)
  replace a0 := kcell hk7 a0
  replace a1 := kcell hk7 a1
  replace a2 := kcell hk7 a2
  replace v0 := kcell hk7 v0
  replace v1 := kcell hk7 v1
  replace v2 := kcell hk7 v2
  replace v3 := kcell hk7 v3
  replace b0 := kcell hk7 b0
  replace b1 := kcell hk7 b1
  replace b2 := kcell hk7 b2
  replace x0 := kcell hk7 x0
  replace x1 := kcell hk7 x1
  replace x2 := kcell hk7 x2
  obtain rfl : r2 = true := hr2.2 hcan
  clear hr2
  have a0r : ∀ d os, (grow (redrawn V7 d) os).cell? ⟨W.heap.size, 0, none⟩ = some (.slice p B.boys.length cap) := cell_regrown a0
  have a1r : ∀ d os, (grow (redrawn V7 d) os).cell? ⟨W.heap.size, 1, none⟩ = some (.int .i64 B.weeks) := cell_regrown a1
  have a2r : ∀ d os, (grow (redrawn V7 d) os).cell? ⟨W.heap.size, 2, none⟩ = some (.slice q B.trials.length capt) := cell_regrown a2
  have b0r : ∀ d os, (grow (redrawn V7 d) os).cell? ⟨W.heap.size + 1 + 1, 0, none⟩ = some (.int .i64 n0) := cell_regrown b0
  have b1r : ∀ d os, (grow (redrawn V7 d) os).cell? ⟨W.heap.size + 1 + 1, 1, none⟩ = some (.int .i64 n1) := cell_regrown b1
  have b2r : ∀ d os, (grow (redrawn V7 d) os).cell? ⟨W.heap.size + 1 + 1, 2, none⟩ = some (.int .i64 n2) := cell_regrown b2
  have ht0 : ∀ d os, Calls Tryd.prog 9 #[.int .i64 n0, .int .i64 (B.boys.length : Int)] (grow (redrawn V7 d) os) fun e w'' => e = .returned (.int .i64 (turnI n0 (B.boys.length : Int))) ∧ ∃ p : Regrown, w'' = grow (redrawn V7 p.d) p.os := fun d os => Calls.regrown_of ((turn_is n0 (B.boys.length : Int) (by omega) (by omega) _).mono (by rintro e w' ⟨rfl, rfl⟩; exact ⟨rfl, kept_refl _⟩))
  have ht1 : ∀ d os, Calls Tryd.prog 9 #[.int .i64 n1, .int .i64 B.weeks] (grow (redrawn V7 d) os) fun e w'' => e = .returned (.int .i64 (turnI n1 B.weeks)) ∧ ∃ p : Regrown, w'' = grow (redrawn V7 p.d) p.os := fun d os => Calls.regrown_of ((turn_is n1 B.weeks (by omega) (by omega) _).mono (by rintro e w' ⟨rfl, rfl⟩; exact ⟨rfl, kept_refl _⟩))
  have ht2 : ∀ d os, Calls Tryd.prog 9 #[.int .i64 n2, .int .i64 41] (grow (redrawn V7 d) os) fun e w'' => e = .returned (.int .i64 (turnI n2 41)) ∧ ∃ p : Regrown, w'' = grow (redrawn V7 p.d) p.os := fun d os => Calls.regrown_of ((turn_is n2 41 (by omega) (by omega) _).mono (by rintro e w' ⟨rfl, rfl⟩; exact ⟨rfl, kept_refl _⟩))
  obtain ⟨k3, k4⟩ := turnI_lt n0 (B.boys.length : Int) (by omega)
  obtain ⟨k1, k2⟩ := turnI_lt n1 B.weeks (by omega)
  obtain ⟨k5, k6⟩ := turnI_lt n2 41 (by omega)
  generalize turnI n1 B.weeks = week at *
  generalize turnI n2 41 = note at *
  obtain ⟨boy, hboy⟩ := Int.eq_ofNat_of_zero_le k3
  rw [hboy] at ht0 k4
  have hbl : boy < B.boys.length := by omega
  have HT0 := Lib.hid ht0
  have HT1 := Lib.hid ht1
  have HT2 := Lib.hid ht2
  have HCX := Lib.hid hcan
  have HCB := Lib.hid hcanB
  clear ht0 ht1 ht2 hboy k3 k4 hcan hcanB
  go_wp2_with fail
  refine wp_region_quiet_below (by kernel_rfl) (by kernel_rfl) ?_
  repeat (any_goals (first | go_big_quiet_skip | quiet_step (first | with_reducible exact HT0.out _ _ | with_reducible exact HT1.out _ _ | with_reducible exact HT2.out _ _)))
  refine wpQuiet_nil ?_
  intro _ hw'
  obtain ⟨⟨dq, osq⟩, hw''⟩ := hw'
  subst hw''
  have hkd := below_regrown V7 dq osq
  have hkN := kept_trans hkW hkd
  have HBX := Lib.hid (HBX.out.kept hkd)
  replace a0 := kcell hkd a0
  replace a1 := kcell hkd a1
  replace a2 := kcell hkd a2
  replace x0 := kcell hkd x0
  replace x1 := kcell hkd x1
  replace x2 := kcell hkd x2
  generalize grow (redrawn V7 dq) osq = V8 at *
  clear HT0 HT1 HT2 hkd hkW a0r a1r a2r b0r b1r b2r b0 b1 b2 v0 v1 v2 v3
  obtain ⟨x, hx⟩ : ∃ x, B.boys[boy]? = some x := ⟨_, List.getElem?_eq_getElem hbl⟩
  have hxX : X.boys[boy]? = some x := by rw [HX.out]; exact hx
  have hwX : 0 ≤ week ∧ week < X.weeks := by rw [HX.out]; exact ⟨k1, k2⟩
  have HXX := Lib.hid hxX; clear hxX
  have HXB := Lib.hid hx; clear hx
  have HWX := Lib.hid hwX; clear hwX
  obtain ⟨l0, l1, lf, hEL⟩ : ∃ a b c, sLo B boy x = (a, b, c) := ⟨_, _, _, rfl⟩
  obtain ⟨m0, m1, mf, hEM⟩ : ∃ a b c, sLo X boy x = (a, b, c) := ⟨_, _, _, rfl⟩
  obtain ⟨u0, u1, uf, hEU⟩ : ∃ a b c, sBr B boy x = (a, b, c) := ⟨_, _, _, rfl⟩
  obtain ⟨z0, z1, zf, hEZ⟩ : ∃ a b c, sBr X boy x = (a, b, c) := ⟨_, _, _, rfl⟩
  obtain ⟨t0, t1, tf', hET⟩ : ∃ a b c, sHi B boy week x = (a, b, c) := ⟨_, _, _, rfl⟩
  obtain ⟨y0, y1, yf, hEY⟩ : ∃ a b c, sHi X boy week x = (a, b, c) := ⟨_, _, _, rfl⟩
  obtain ⟨sk, hES⟩ : ∃ k, sSi B boy week note x = k := ⟨_, rfl⟩
  obtain ⟨sm, hEK⟩ : ∃ k, sSi X boy week note x = k := ⟨_, rfl⟩
  obtain ⟨ul1, ul2⟩ : l0 ≤ m0 ∧ m1 ≤ l1 := more_lo hcanM.out HXB.out hEL (by rw [← HX.out]; exact hEM)
  obtain ⟨uu1, uu2⟩ : u0 ≤ z0 ∧ z1 ≤ u1 := more_lo hcanM.out HXB.out hEU (by rw [← HX.out]; exact hEZ)
  have hsk : sk = 1 ∨ sm = sk := by
    have := more_si (week := week) (note := note) hcanM.out HXB.out
    rw [← HX.out, hES, hEK] at this
    exact this
  have hyi : yf = true → tf' = true ∧ t0 ≤ y0 ∧ y1 ≤ t1 := fun e => more_hi hET (by rw [← HX.out, ← e]; exact hEY)
  have EL := Lib.hid hEL
  have EM := Lib.hid hEM
  have EU := Lib.hid hEU
  have EZ := Lib.hid hEZ
  have ET := Lib.hid hET
  have EY := Lib.hid hEY
  have ES := Lib.hid hES
  have EK := Lib.hid hEK
  have HYI := Lib.hid hyi
  clear hEL hEM hEU hEZ hET hEY hES hEK hyi
  obtain ⟨ef, hEF⟩ : ∃ ef : Int, (if tf' = true then (0 : Int) else 4) = ef := ⟨_, rfl⟩
  obtain ⟨eg, hEG⟩ : ∃ eg : Int, (if yf = true then (0 : Int) else 4) = eg := ⟨_, rfl⟩
  have EF := Lib.hid hEF
  have EG := Lib.hid hEG
  clear hEF hEG
  have hza := Go.Ai.lt_of_cell a0
  have hzx := Go.Ai.lt_of_cell x0
  have hkR : Kept V8 V8 := kept_refl V8
  have h1 := lowest_can (HB.out.kept (kept_trans hkN hkR)) (HG.out.kept (kept_trans hkN hkR)) hok HCB.out HXB.out
  unfold Book.val at h1
  simp only [EL.out] at h1
  have H1 := Lib.hid h1; clear h1
  go_wp2_with fail
  refine H1.out.mono ?_
  rintro e V9 ⟨rfl, hka⟩
  clear H1
  have kb : Kept V9 (V9.alloc (Obj.cells #[.int .i64 l0, .int .i64 l1] 38)) := kept_alloc (kept_refl _) _
  have hkb := kept_trans hka kb
  have hkR := kept_trans hkR hkb
  have hszs := hka.size
  have hsys : (V9.alloc (Obj.cells #[.int .i64 l0, .int .i64 l1] 38)).heap.size = V9.heap.size + 1 := by simp
  replace a0 := kcell hkb a0
  replace a1 := kcell hkb a1
  replace a2 := kcell hkb a2
  replace x0 := kcell hkb x0
  replace x1 := kcell hkb x1
  replace x2 := kcell hkb x2
  have sp0 : (V9.alloc (Obj.cells #[.int .i64 l0, .int .i64 l1] 38)).cell? ⟨V9.heap.size, 0, none⟩ = some (.int .i64 l0) := by go_simp
  have sp1 : (V9.alloc (Obj.cells #[.int .i64 l0, .int .i64 l1] 38)).cell? ⟨V9.heap.size, 1, none⟩ = some (.int .i64 l1) := by go_simp
  have sf : ∀ i, (V9.alloc (Obj.cells #[.int .i64 l0, .int .i64 l1] 38)).frozen? ⟨V9.heap.size, i, none⟩ = false := by intro i; go_simp
  clear hka kb hkb
  have h1 := lowest_can (HBX.out.kept hkR) (HG.out.kept (kept_trans hkN hkR)) hokX HCX.out HXX.out
  unfold Book.val at h1
  simp only [EM.out] at h1
  have H1 := Lib.hid h1; clear h1
  go_wp2_with fail
  generalize (V9.alloc (Obj.cells #[.int .i64 l0, .int .i64 l1] 38)) = V10 at *
  refine H1.out.mono ?_
  rintro e V11 ⟨rfl, hka⟩
  clear H1
  have kb : Kept V11 (V11.alloc (Obj.cells #[.int .i64 m0, .int .i64 m1] 38)) := kept_alloc (kept_refl _) _
  have hkb := kept_trans hka kb
  have hkR := kept_trans hkR hkb
  have hszt := hka.size
  have hsyt : (V11.alloc (Obj.cells #[.int .i64 m0, .int .i64 m1] 38)).heap.size = V11.heap.size + 1 := by simp
  replace a0 := kcell hkb a0
  replace a1 := kcell hkb a1
  replace a2 := kcell hkb a2
  replace x0 := kcell hkb x0
  replace x1 := kcell hkb x1
  replace x2 := kcell hkb x2
  have sf : ∀ i, (V11.alloc (Obj.cells #[.int .i64 m0, .int .i64 m1] 38)).frozen? ⟨V9.heap.size, i, none⟩ = false := fun i => ((kturns hkb (fun _ => False)).frozen (Go.Ai.lt_of_cell sp0) (fun h => h)).trans (sf i)
  replace sp0 := kcell hkb sp0
  replace sp1 := kcell hkb sp1
  have tp0 : (V11.alloc (Obj.cells #[.int .i64 m0, .int .i64 m1] 38)).cell? ⟨V11.heap.size, 0, none⟩ = some (.int .i64 m0) := by go_simp
  have tp1 : (V11.alloc (Obj.cells #[.int .i64 m0, .int .i64 m1] 38)).cell? ⟨V11.heap.size, 1, none⟩ = some (.int .i64 m1) := by go_simp
  have tf : ∀ i, (V11.alloc (Obj.cells #[.int .i64 m0, .int .i64 m1] 38)).frozen? ⟨V11.heap.size, i, none⟩ = false := by intro i; go_simp
  clear hka kb hkb
  have h1 := breaks_can (HB.out.kept (kept_trans hkN hkR)) (HG.out.kept (kept_trans hkN hkR)) hok HCB.out HXB.out
  unfold Book.val at h1
  simp only [EU.out] at h1
  have H1 := Lib.hid h1; clear h1
  go_wp2_with fail
  generalize (V11.alloc (Obj.cells #[.int .i64 m0, .int .i64 m1] 38)) = V12 at *
  refine H1.out.mono ?_
  rintro e V13 ⟨rfl, hka⟩
  clear H1
  have kb : Kept V13 (V13.alloc (Obj.cells #[.int .i64 u0, .int .i64 u1] 38)) := kept_alloc (kept_refl _) _
  have hkb := kept_trans hka kb
  have hkR := kept_trans hkR hkb
  have hszu := hka.size
  have hsyu : (V13.alloc (Obj.cells #[.int .i64 u0, .int .i64 u1] 38)).heap.size = V13.heap.size + 1 := by simp
  replace a0 := kcell hkb a0
  replace a1 := kcell hkb a1
  replace a2 := kcell hkb a2
  replace x0 := kcell hkb x0
  replace x1 := kcell hkb x1
  replace x2 := kcell hkb x2
  have sf : ∀ i, (V13.alloc (Obj.cells #[.int .i64 u0, .int .i64 u1] 38)).frozen? ⟨V9.heap.size, i, none⟩ = false := fun i => ((kturns hkb (fun _ => False)).frozen (Go.Ai.lt_of_cell sp0) (fun h => h)).trans (sf i)
  replace sp0 := kcell hkb sp0
  replace sp1 := kcell hkb sp1
  have tf : ∀ i, (V13.alloc (Obj.cells #[.int .i64 u0, .int .i64 u1] 38)).frozen? ⟨V11.heap.size, i, none⟩ = false := fun i => ((kturns hkb (fun _ => False)).frozen (Go.Ai.lt_of_cell tp0) (fun h => h)).trans (tf i)
  replace tp0 := kcell hkb tp0
  replace tp1 := kcell hkb tp1
  have up0 : (V13.alloc (Obj.cells #[.int .i64 u0, .int .i64 u1] 38)).cell? ⟨V13.heap.size, 0, none⟩ = some (.int .i64 u0) := by go_simp
  have up1 : (V13.alloc (Obj.cells #[.int .i64 u0, .int .i64 u1] 38)).cell? ⟨V13.heap.size, 1, none⟩ = some (.int .i64 u1) := by go_simp
  have uf : ∀ i, (V13.alloc (Obj.cells #[.int .i64 u0, .int .i64 u1] 38)).frozen? ⟨V13.heap.size, i, none⟩ = false := by intro i; go_simp
  clear hka kb hkb
  have h1 := breaks_can (HBX.out.kept hkR) (HG.out.kept (kept_trans hkN hkR)) hokX HCX.out HXX.out
  unfold Book.val at h1
  simp only [EZ.out] at h1
  have H1 := Lib.hid h1; clear h1
  go_wp2_with fail
  generalize (V13.alloc (Obj.cells #[.int .i64 u0, .int .i64 u1] 38)) = V14 at *
  refine H1.out.mono ?_
  rintro e V15 ⟨rfl, hka⟩
  clear H1
  have kb : Kept V15 (V15.alloc (Obj.cells #[.int .i64 z0, .int .i64 z1] 38)) := kept_alloc (kept_refl _) _
  have hkb := kept_trans hka kb
  have hkR := kept_trans hkR hkb
  have hszv := hka.size
  have hsyv : (V15.alloc (Obj.cells #[.int .i64 z0, .int .i64 z1] 38)).heap.size = V15.heap.size + 1 := by simp
  replace a0 := kcell hkb a0
  replace a1 := kcell hkb a1
  replace a2 := kcell hkb a2
  replace x0 := kcell hkb x0
  replace x1 := kcell hkb x1
  replace x2 := kcell hkb x2
  have sf : ∀ i, (V15.alloc (Obj.cells #[.int .i64 z0, .int .i64 z1] 38)).frozen? ⟨V9.heap.size, i, none⟩ = false := fun i => ((kturns hkb (fun _ => False)).frozen (Go.Ai.lt_of_cell sp0) (fun h => h)).trans (sf i)
  replace sp0 := kcell hkb sp0
  replace sp1 := kcell hkb sp1
  have tf : ∀ i, (V15.alloc (Obj.cells #[.int .i64 z0, .int .i64 z1] 38)).frozen? ⟨V11.heap.size, i, none⟩ = false := fun i => ((kturns hkb (fun _ => False)).frozen (Go.Ai.lt_of_cell tp0) (fun h => h)).trans (tf i)
  replace tp0 := kcell hkb tp0
  replace tp1 := kcell hkb tp1
  have uf : ∀ i, (V15.alloc (Obj.cells #[.int .i64 z0, .int .i64 z1] 38)).frozen? ⟨V13.heap.size, i, none⟩ = false := fun i => ((kturns hkb (fun _ => False)).frozen (Go.Ai.lt_of_cell up0) (fun h => h)).trans (uf i)
  replace up0 := kcell hkb up0
  replace up1 := kcell hkb up1
  have vp0 : (V15.alloc (Obj.cells #[.int .i64 z0, .int .i64 z1] 38)).cell? ⟨V15.heap.size, 0, none⟩ = some (.int .i64 z0) := by go_simp
  have vp1 : (V15.alloc (Obj.cells #[.int .i64 z0, .int .i64 z1] 38)).cell? ⟨V15.heap.size, 1, none⟩ = some (.int .i64 z1) := by go_simp
  have vf : ∀ i, (V15.alloc (Obj.cells #[.int .i64 z0, .int .i64 z1] 38)).frozen? ⟨V15.heap.size, i, none⟩ = false := by intro i; go_simp
  clear hka kb hkb
  have h1 := sings_can (HB.out.kept (kept_trans hkN hkR)) (HG.out.kept (kept_trans hkN hkR)) hok HCB.out HXB.out ⟨k1, k2⟩ ⟨k5, by omega⟩
  unfold Book.val at h1
  simp only [ES.out] at h1
  have H1 := Lib.hid h1; clear h1
  go_wp2_with fail
  generalize (V15.alloc (Obj.cells #[.int .i64 z0, .int .i64 z1] 38)) = V16 at *
  refine H1.out.mono ?_
  rintro e V17 ⟨rfl, hka⟩
  clear H1
  have hkR := kept_trans hkR hka
  replace a0 := kcell hka a0
  replace a1 := kcell hka a1
  replace a2 := kcell hka a2
  replace x0 := kcell hka x0
  replace x1 := kcell hka x1
  replace x2 := kcell hka x2
  have sf : ∀ i, V17.frozen? ⟨V9.heap.size, i, none⟩ = false := fun i => ((kturns hka (fun _ => False)).frozen (Go.Ai.lt_of_cell sp0) (fun h => h)).trans (sf i)
  replace sp0 := kcell hka sp0
  replace sp1 := kcell hka sp1
  have tf : ∀ i, V17.frozen? ⟨V11.heap.size, i, none⟩ = false := fun i => ((kturns hka (fun _ => False)).frozen (Go.Ai.lt_of_cell tp0) (fun h => h)).trans (tf i)
  replace tp0 := kcell hka tp0
  replace tp1 := kcell hka tp1
  have uf : ∀ i, V17.frozen? ⟨V13.heap.size, i, none⟩ = false := fun i => ((kturns hka (fun _ => False)).frozen (Go.Ai.lt_of_cell up0) (fun h => h)).trans (uf i)
  replace up0 := kcell hka up0
  replace up1 := kcell hka up1
  have vf : ∀ i, V17.frozen? ⟨V15.heap.size, i, none⟩ = false := fun i => ((kturns hka (fun _ => False)).frozen (Go.Ai.lt_of_cell vp0) (fun h => h)).trans (vf i)
  replace vp0 := kcell hka vp0
  replace vp1 := kcell hka vp1
  have h1 := sings_can (HBX.out.kept hkR) (HG.out.kept (kept_trans hkN hkR)) hokX HCX.out HXX.out HWX.out ⟨k5, by omega⟩
  unfold Book.val at h1
  simp only [EK.out] at h1
  have H1 := Lib.hid h1; clear h1
  go_wp2_with fail
  refine H1.out.mono ?_
  rintro e V18 ⟨rfl, hka⟩
  clear H1
  have hkR := kept_trans hkR hka
  replace a0 := kcell hka a0
  replace a1 := kcell hka a1
  replace a2 := kcell hka a2
  replace x0 := kcell hka x0
  replace x1 := kcell hka x1
  replace x2 := kcell hka x2
  have sf : ∀ i, V18.frozen? ⟨V9.heap.size, i, none⟩ = false := fun i => ((kturns hka (fun _ => False)).frozen (Go.Ai.lt_of_cell sp0) (fun h => h)).trans (sf i)
  replace sp0 := kcell hka sp0
  replace sp1 := kcell hka sp1
  have tf : ∀ i, V18.frozen? ⟨V11.heap.size, i, none⟩ = false := fun i => ((kturns hka (fun _ => False)).frozen (Go.Ai.lt_of_cell tp0) (fun h => h)).trans (tf i)
  replace tp0 := kcell hka tp0
  replace tp1 := kcell hka tp1
  have uf : ∀ i, V18.frozen? ⟨V13.heap.size, i, none⟩ = false := fun i => ((kturns hka (fun _ => False)).frozen (Go.Ai.lt_of_cell up0) (fun h => h)).trans (uf i)
  replace up0 := kcell hka up0
  replace up1 := kcell hka up1
  have vf : ∀ i, V18.frozen? ⟨V15.heap.size, i, none⟩ = false := fun i => ((kturns hka (fun _ => False)).frozen (Go.Ai.lt_of_cell vp0) (fun h => h)).trans (vf i)
  replace vp0 := kcell hka vp0
  replace vp1 := kcell hka vp1
  have HU1 := Lib.hid (fun V => under_true m0 m1 l0 l1 V ul1 ul2)
  have HU2 := Lib.hid (fun V => under_true z0 z1 u0 u1 V uu1 uu2)
  have zs := Go.Ai.lt_of_cell sp0
  have zt := Go.Ai.lt_of_cell tp0
  have zu := Go.Ai.lt_of_cell up0
  have zv := Go.Ai.lt_of_cell vp0
  by_cases hk1 : sk = 1
  · have HS1 := Lib.hid hk1
    subst hk1
    clear hsk
    go_wp2_with fail
    refine (HU1.out _).mono ?_
    rintro e V19 ⟨rfl, hka⟩
    have hkR := kept_trans hkR hka
    replace a0 := kcell hka a0
    replace a1 := kcell hka a1
    replace a2 := kcell hka a2
    replace x0 := kcell hka x0
    replace x1 := kcell hka x1
    replace x2 := kcell hka x2
    have sf : ∀ i, V19.frozen? ⟨V9.heap.size, i, none⟩ = false := fun i => ((kturns hka (fun _ => False)).frozen (Go.Ai.lt_of_cell sp0) (fun h => h)).trans (sf i)
    replace sp0 := kcell hka sp0
    replace sp1 := kcell hka sp1
    have tf : ∀ i, V19.frozen? ⟨V11.heap.size, i, none⟩ = false := fun i => ((kturns hka (fun _ => False)).frozen (Go.Ai.lt_of_cell tp0) (fun h => h)).trans (tf i)
    replace tp0 := kcell hka tp0
    replace tp1 := kcell hka tp1
    have uf : ∀ i, V19.frozen? ⟨V13.heap.size, i, none⟩ = false := fun i => ((kturns hka (fun _ => False)).frozen (Go.Ai.lt_of_cell up0) (fun h => h)).trans (uf i)
    replace up0 := kcell hka up0
    replace up1 := kcell hka up1
    have vf : ∀ i, V19.frozen? ⟨V15.heap.size, i, none⟩ = false := fun i => ((kturns hka (fun _ => False)).frozen (Go.Ai.lt_of_cell vp0) (fun h => h)).trans (vf i)
    replace vp0 := kcell hka vp0
    replace vp1 := kcell hka vp1
    go_wp2_with fail
    refine (HU2.out _).mono ?_
    rintro e V20 ⟨rfl, hka⟩
    have hkR := kept_trans hkR hka
    replace a0 := kcell hka a0
    replace a1 := kcell hka a1
    replace a2 := kcell hka a2
    replace x0 := kcell hka x0
    replace x1 := kcell hka x1
    replace x2 := kcell hka x2
    have sf : ∀ i, V20.frozen? ⟨V9.heap.size, i, none⟩ = false := fun i => ((kturns hka (fun _ => False)).frozen (Go.Ai.lt_of_cell sp0) (fun h => h)).trans (sf i)
    replace sp0 := kcell hka sp0
    replace sp1 := kcell hka sp1
    have tf : ∀ i, V20.frozen? ⟨V11.heap.size, i, none⟩ = false := fun i => ((kturns hka (fun _ => False)).frozen (Go.Ai.lt_of_cell tp0) (fun h => h)).trans (tf i)
    replace tp0 := kcell hka tp0
    replace tp1 := kcell hka tp1
    have uf : ∀ i, V20.frozen? ⟨V13.heap.size, i, none⟩ = false := fun i => ((kturns hka (fun _ => False)).frozen (Go.Ai.lt_of_cell up0) (fun h => h)).trans (uf i)
    replace up0 := kcell hka up0
    replace up1 := kcell hka up1
    have vf : ∀ i, V20.frozen? ⟨V15.heap.size, i, none⟩ = false := fun i => ((kturns hka (fun _ => False)).frozen (Go.Ai.lt_of_cell vp0) (fun h => h)).trans (vf i)
    replace vp0 := kcell hka vp0
    replace vp1 := kcell hka vp1
    have h1 := highest_can (HB.out.kept (kept_trans hkN hkR)) (HG.out.kept (kept_trans hkN hkR)) hok HCB.out HXB.out ⟨k1, k2⟩
    unfold Book.val at h1
    simp only [ET.out, EF.out] at h1
    have H1 := Lib.hid h1; clear h1
    go_wp2_with fail
    refine H1.out.mono ?_
    rintro e V21 ⟨rfl, hka⟩
    clear H1
    have hkR := kept_trans hkR hka
    replace a0 := kcell hka a0
    replace a1 := kcell hka a1
    replace a2 := kcell hka a2
    replace x0 := kcell hka x0
    replace x1 := kcell hka x1
    replace x2 := kcell hka x2
    have sf : ∀ i, V21.frozen? ⟨V9.heap.size, i, none⟩ = false := fun i => ((kturns hka (fun _ => False)).frozen (Go.Ai.lt_of_cell sp0) (fun h => h)).trans (sf i)
    replace sp0 := kcell hka sp0
    replace sp1 := kcell hka sp1
    have tf : ∀ i, V21.frozen? ⟨V11.heap.size, i, none⟩ = false := fun i => ((kturns hka (fun _ => False)).frozen (Go.Ai.lt_of_cell tp0) (fun h => h)).trans (tf i)
    replace tp0 := kcell hka tp0
    replace tp1 := kcell hka tp1
    have uf : ∀ i, V21.frozen? ⟨V13.heap.size, i, none⟩ = false := fun i => ((kturns hka (fun _ => False)).frozen (Go.Ai.lt_of_cell up0) (fun h => h)).trans (uf i)
    replace up0 := kcell hka up0
    replace up1 := kcell hka up1
    have vf : ∀ i, V21.frozen? ⟨V15.heap.size, i, none⟩ = false := fun i => ((kturns hka (fun _ => False)).frozen (Go.Ai.lt_of_cell vp0) (fun h => h)).trans (vf i)
    replace vp0 := kcell hka vp0
    replace vp1 := kcell hka vp1
    have hT : Turns (fun b => b = V9.heap.size) V21 ((V21.setCell ⟨V9.heap.size, 0, none⟩ (.int .i64 t0)).setCell ⟨V9.heap.size, 1, none⟩ (.int .i64 t1)) := Turns.setCell (T := fun b => b = V9.heap.size) (Turns.setCell (T := fun b => b = V9.heap.size) (Turns.refl _ V21) rfl _ _) rfl _ _
    have tc : ∀ b o v, b ≠ V9.heap.size → V21.cell? ⟨b, o, none⟩ = some v → ((V21.setCell ⟨V9.heap.size, 0, none⟩ (.int .i64 t0)).setCell ⟨V9.heap.size, 1, none⟩ (.int .i64 t1)).cell? ⟨b, o, none⟩ = some v := fun b o v hb h => (hT.cell (Go.Ai.lt_of_cell h) hb).trans h
    have hkR : Kept V8 ((V21.setCell ⟨V9.heap.size, 0, none⟩ (.int .i64 t0)).setCell ⟨V9.heap.size, 1, none⟩ (.int .i64 t1)) := Below.setCell (p := ⟨V9.heap.size, 1, none⟩) (Below.setCell (p := ⟨V9.heap.size, 0, none⟩) hkR (show V8.heap.size ≤ V9.heap.size by omega) _) (show V8.heap.size ≤ V9.heap.size by omega) _
    have a0' := tc _ _ _ (by omega) a0
    have a1' := tc _ _ _ (by omega) a1
    have a2' := tc _ _ _ (by omega) a2
    have x0' := tc _ _ _ (by omega) x0
    have x1' := tc _ _ _ (by omega) x1
    have x2' := tc _ _ _ (by omega) x2
    have sf' : ∀ i, ((V21.setCell ⟨V9.heap.size, 0, none⟩ (.int .i64 t0)).setCell ⟨V9.heap.size, 1, none⟩ (.int .i64 t1)).frozen? ⟨V9.heap.size, i, none⟩ = false := fun i => by rw [World.frozen?_setCell, World.frozen?_setCell]; exact sf i
    have sp0' : ((V21.setCell ⟨V9.heap.size, 0, none⟩ (.int .i64 t0)).setCell ⟨V9.heap.size, 1, none⟩ (.int .i64 t1)).cell? ⟨V9.heap.size, 0, none⟩ = some (.int .i64 t0) := (cell_set_ne (by omega)).trans (cell_set_eq sp0)
    have sp1' : ((V21.setCell ⟨V9.heap.size, 0, none⟩ (.int .i64 t0)).setCell ⟨V9.heap.size, 1, none⟩ (.int .i64 t1)).cell? ⟨V9.heap.size, 1, none⟩ = some (.int .i64 t1) := cell_set_eq ((cell_set_ne (by omega)).trans sp1)
    have tf' : ∀ i, ((V21.setCell ⟨V9.heap.size, 0, none⟩ (.int .i64 t0)).setCell ⟨V9.heap.size, 1, none⟩ (.int .i64 t1)).frozen? ⟨V11.heap.size, i, none⟩ = false := fun i => (hT.frozen (Go.Ai.lt_of_cell tp0) (show ¬ V11.heap.size = V9.heap.size by omega)).trans (tf i)
    have tp0' := tc _ _ _ (by omega) tp0
    have tp1' := tc _ _ _ (by omega) tp1
    have uf' : ∀ i, ((V21.setCell ⟨V9.heap.size, 0, none⟩ (.int .i64 t0)).setCell ⟨V9.heap.size, 1, none⟩ (.int .i64 t1)).frozen? ⟨V13.heap.size, i, none⟩ = false := fun i => (hT.frozen (Go.Ai.lt_of_cell up0) (show ¬ V13.heap.size = V9.heap.size by omega)).trans (uf i)
    have up0' := tc _ _ _ (by omega) up0
    have up1' := tc _ _ _ (by omega) up1
    have vf' : ∀ i, ((V21.setCell ⟨V9.heap.size, 0, none⟩ (.int .i64 t0)).setCell ⟨V9.heap.size, 1, none⟩ (.int .i64 t1)).frozen? ⟨V15.heap.size, i, none⟩ = false := fun i => (hT.frozen (Go.Ai.lt_of_cell vp0) (show ¬ V15.heap.size = V9.heap.size by omega)).trans (vf i)
    have vp0' := tc _ _ _ (by omega) vp0
    have vp1' := tc _ _ _ (by omega) vp1
    clear hT tc
    have h1 := highest_can (HBX.out.kept hkR) (HG.out.kept (kept_trans hkN hkR)) hokX HCX.out HXX.out HWX.out
    unfold Book.val at h1
    simp only [EY.out, EG.out] at h1
    have H1 := Lib.hid h1; clear h1
    go_wp2_with fail
    generalize ((V21.setCell ⟨V9.heap.size, 0, none⟩ (.int .i64 t0)).setCell ⟨V9.heap.size, 1, none⟩ (.int .i64 t1)) = V22s at *
    have a0 := a0'
    clear a0'
    have a1 := a1'
    clear a1'
    have a2 := a2'
    clear a2'
    have x0 := x0'
    clear x0'
    have x1 := x1'
    clear x1'
    have x2 := x2'
    clear x2'
    have sf := sf'
    clear sf'
    have sp0 := sp0'
    clear sp0'
    have sp1 := sp1'
    clear sp1'
    have tf := tf'
    clear tf'
    have tp0 := tp0'
    clear tp0'
    have tp1 := tp1'
    clear tp1'
    have uf := uf'
    clear uf'
    have up0 := up0'
    clear up0'
    have up1 := up1'
    clear up1'
    have vf := vf'
    clear vf'
    have vp0 := vp0'
    clear vp0'
    have vp1 := vp1'
    clear vp1'
    refine H1.out.mono ?_
    rintro e V22 ⟨rfl, hka⟩
    clear H1
    have hkR := kept_trans hkR hka
    replace a0 := kcell hka a0
    replace a1 := kcell hka a1
    replace a2 := kcell hka a2
    replace x0 := kcell hka x0
    replace x1 := kcell hka x1
    replace x2 := kcell hka x2
    have sf : ∀ i, V22.frozen? ⟨V9.heap.size, i, none⟩ = false := fun i => ((kturns hka (fun _ => False)).frozen (Go.Ai.lt_of_cell sp0) (fun h => h)).trans (sf i)
    replace sp0 := kcell hka sp0
    replace sp1 := kcell hka sp1
    have tf : ∀ i, V22.frozen? ⟨V11.heap.size, i, none⟩ = false := fun i => ((kturns hka (fun _ => False)).frozen (Go.Ai.lt_of_cell tp0) (fun h => h)).trans (tf i)
    replace tp0 := kcell hka tp0
    replace tp1 := kcell hka tp1
    have uf : ∀ i, V22.frozen? ⟨V13.heap.size, i, none⟩ = false := fun i => ((kturns hka (fun _ => False)).frozen (Go.Ai.lt_of_cell up0) (fun h => h)).trans (uf i)
    replace up0 := kcell hka up0
    replace up1 := kcell hka up1
    have vf : ∀ i, V22.frozen? ⟨V15.heap.size, i, none⟩ = false := fun i => ((kturns hka (fun _ => False)).frozen (Go.Ai.lt_of_cell vp0) (fun h => h)).trans (vf i)
    replace vp0 := kcell hka vp0
    replace vp1 := kcell hka vp1
    have hT : Turns (fun b => b = V11.heap.size) V22 ((V22.setCell ⟨V11.heap.size, 0, none⟩ (.int .i64 y0)).setCell ⟨V11.heap.size, 1, none⟩ (.int .i64 y1)) := Turns.setCell (T := fun b => b = V11.heap.size) (Turns.setCell (T := fun b => b = V11.heap.size) (Turns.refl _ V22) rfl _ _) rfl _ _
    have tc : ∀ b o v, b ≠ V11.heap.size → V22.cell? ⟨b, o, none⟩ = some v → ((V22.setCell ⟨V11.heap.size, 0, none⟩ (.int .i64 y0)).setCell ⟨V11.heap.size, 1, none⟩ (.int .i64 y1)).cell? ⟨b, o, none⟩ = some v := fun b o v hb h => (hT.cell (Go.Ai.lt_of_cell h) hb).trans h
    have hkR : Kept V8 ((V22.setCell ⟨V11.heap.size, 0, none⟩ (.int .i64 y0)).setCell ⟨V11.heap.size, 1, none⟩ (.int .i64 y1)) := Below.setCell (p := ⟨V11.heap.size, 1, none⟩) (Below.setCell (p := ⟨V11.heap.size, 0, none⟩) hkR (show V8.heap.size ≤ V11.heap.size by omega) _) (show V8.heap.size ≤ V11.heap.size by omega) _
    have a0' := tc _ _ _ (by omega) a0
    have a1' := tc _ _ _ (by omega) a1
    have a2' := tc _ _ _ (by omega) a2
    have x0' := tc _ _ _ (by omega) x0
    have x1' := tc _ _ _ (by omega) x1
    have x2' := tc _ _ _ (by omega) x2
    have sf' : ∀ i, ((V22.setCell ⟨V11.heap.size, 0, none⟩ (.int .i64 y0)).setCell ⟨V11.heap.size, 1, none⟩ (.int .i64 y1)).frozen? ⟨V9.heap.size, i, none⟩ = false := fun i => (hT.frozen (Go.Ai.lt_of_cell sp0) (show ¬ V9.heap.size = V11.heap.size by omega)).trans (sf i)
    have sp0' := tc _ _ _ (by omega) sp0
    have sp1' := tc _ _ _ (by omega) sp1
    have tf' : ∀ i, ((V22.setCell ⟨V11.heap.size, 0, none⟩ (.int .i64 y0)).setCell ⟨V11.heap.size, 1, none⟩ (.int .i64 y1)).frozen? ⟨V11.heap.size, i, none⟩ = false := fun i => by rw [World.frozen?_setCell, World.frozen?_setCell]; exact tf i
    have tp0' : ((V22.setCell ⟨V11.heap.size, 0, none⟩ (.int .i64 y0)).setCell ⟨V11.heap.size, 1, none⟩ (.int .i64 y1)).cell? ⟨V11.heap.size, 0, none⟩ = some (.int .i64 y0) := (cell_set_ne (by omega)).trans (cell_set_eq tp0)
    have tp1' : ((V22.setCell ⟨V11.heap.size, 0, none⟩ (.int .i64 y0)).setCell ⟨V11.heap.size, 1, none⟩ (.int .i64 y1)).cell? ⟨V11.heap.size, 1, none⟩ = some (.int .i64 y1) := cell_set_eq ((cell_set_ne (by omega)).trans tp1)
    have uf' : ∀ i, ((V22.setCell ⟨V11.heap.size, 0, none⟩ (.int .i64 y0)).setCell ⟨V11.heap.size, 1, none⟩ (.int .i64 y1)).frozen? ⟨V13.heap.size, i, none⟩ = false := fun i => (hT.frozen (Go.Ai.lt_of_cell up0) (show ¬ V13.heap.size = V11.heap.size by omega)).trans (uf i)
    have up0' := tc _ _ _ (by omega) up0
    have up1' := tc _ _ _ (by omega) up1
    have vf' : ∀ i, ((V22.setCell ⟨V11.heap.size, 0, none⟩ (.int .i64 y0)).setCell ⟨V11.heap.size, 1, none⟩ (.int .i64 y1)).frozen? ⟨V15.heap.size, i, none⟩ = false := fun i => (hT.frozen (Go.Ai.lt_of_cell vp0) (show ¬ V15.heap.size = V11.heap.size by omega)).trans (vf i)
    have vp0' := tc _ _ _ (by omega) vp0
    have vp1' := tc _ _ _ (by omega) vp1
    clear hT tc
    have h1 := must_can (HB.out.kept (kept_trans hkN hkR)) (HG.out.kept (kept_trans hkN hkR)) hok HCB.out ⟨k1, k2⟩
    unfold Book.val at h1
    skip
    have H1 := Lib.hid h1; clear h1
    go_wp2_with fail
    generalize ((V22.setCell ⟨V11.heap.size, 0, none⟩ (.int .i64 y0)).setCell ⟨V11.heap.size, 1, none⟩ (.int .i64 y1)) = V23s at *
    have a0 := a0'
    clear a0'
    have a1 := a1'
    clear a1'
    have a2 := a2'
    clear a2'
    have x0 := x0'
    clear x0'
    have x1 := x1'
    clear x1'
    have x2 := x2'
    clear x2'
    have sf := sf'
    clear sf'
    have sp0 := sp0'
    clear sp0'
    have sp1 := sp1'
    clear sp1'
    have tf := tf'
    clear tf'
    have tp0 := tp0'
    clear tp0'
    have tp1 := tp1'
    clear tp1'
    have uf := uf'
    clear uf'
    have up0 := up0'
    clear up0'
    have up1 := up1'
    clear up1'
    have vf := vf'
    clear vf'
    have vp0 := vp0'
    clear vp0'
    have vp1 := vp1'
    clear vp1'
    refine H1.out.mono ?_
    rintro e V23 ⟨lv, rfl, hka, hLV⟩
    clear H1
    have hkR := kept_trans hkR hka
    replace a0 := kcell hka a0
    replace a1 := kcell hka a1
    replace a2 := kcell hka a2
    replace x0 := kcell hka x0
    replace x1 := kcell hka x1
    replace x2 := kcell hka x2
    have sf : ∀ i, V23.frozen? ⟨V9.heap.size, i, none⟩ = false := fun i => ((kturns hka (fun _ => False)).frozen (Go.Ai.lt_of_cell sp0) (fun h => h)).trans (sf i)
    replace sp0 := kcell hka sp0
    replace sp1 := kcell hka sp1
    have tf : ∀ i, V23.frozen? ⟨V11.heap.size, i, none⟩ = false := fun i => ((kturns hka (fun _ => False)).frozen (Go.Ai.lt_of_cell tp0) (fun h => h)).trans (tf i)
    replace tp0 := kcell hka tp0
    replace tp1 := kcell hka tp1
    have uf : ∀ i, V23.frozen? ⟨V13.heap.size, i, none⟩ = false := fun i => ((kturns hka (fun _ => False)).frozen (Go.Ai.lt_of_cell up0) (fun h => h)).trans (uf i)
    replace up0 := kcell hka up0
    replace up1 := kcell hka up1
    have vf : ∀ i, V23.frozen? ⟨V15.heap.size, i, none⟩ = false := fun i => ((kturns hka (fun _ => False)).frozen (Go.Ai.lt_of_cell vp0) (fun h => h)).trans (vf i)
    replace vp0 := kcell hka vp0
    replace vp1 := kcell hka vp1
    have HLV := Lib.hid hLV; clear hLV
    have h1 := must_can (HBX.out.kept hkR) (HG.out.kept (kept_trans hkN hkR)) hokX HCX.out HWX.out
    unfold Book.val at h1
    skip
    have H1 := Lib.hid h1; clear h1
    go_wp2_with fail
    refine H1.out.mono ?_
    rintro e V24 ⟨mv, rfl, hka, hMV⟩
    clear H1
    have hkR := kept_trans hkR hka
    replace a0 := kcell hka a0
    replace a1 := kcell hka a1
    replace a2 := kcell hka a2
    replace x0 := kcell hka x0
    replace x1 := kcell hka x1
    replace x2 := kcell hka x2
    have sf : ∀ i, V24.frozen? ⟨V9.heap.size, i, none⟩ = false := fun i => ((kturns hka (fun _ => False)).frozen (Go.Ai.lt_of_cell sp0) (fun h => h)).trans (sf i)
    replace sp0 := kcell hka sp0
    replace sp1 := kcell hka sp1
    have tf : ∀ i, V24.frozen? ⟨V11.heap.size, i, none⟩ = false := fun i => ((kturns hka (fun _ => False)).frozen (Go.Ai.lt_of_cell tp0) (fun h => h)).trans (tf i)
    replace tp0 := kcell hka tp0
    replace tp1 := kcell hka tp1
    have uf : ∀ i, V24.frozen? ⟨V13.heap.size, i, none⟩ = false := fun i => ((kturns hka (fun _ => False)).frozen (Go.Ai.lt_of_cell up0) (fun h => h)).trans (uf i)
    replace up0 := kcell hka up0
    replace up1 := kcell hka up1
    have vf : ∀ i, V24.frozen? ⟨V15.heap.size, i, none⟩ = false := fun i => ((kturns hka (fun _ => False)).frozen (Go.Ai.lt_of_cell vp0) (fun h => h)).trans (vf i)
    replace vp0 := kcell hka vp0
    replace vp1 := kcell hka vp1
    have HLV := Lib.hid (HLV.out.kept hka)
    have HMV := Lib.hid hMV; clear hMV
    have HU3 := Lib.hid (fun V (a : tf' = true ∧ t0 ≤ y0 ∧ y1 ≤ t1) => under_true y0 y1 t0 t1 V a.2.1 a.2.2)
    have zs := Go.Ai.lt_of_cell sp0
    have zt := Go.Ai.lt_of_cell tp0
    cases hyf : yf with
    | false =>
      obtain rfl : eg = 4 := by rw [← EG.out, hyf]; rfl
      have hkL : Kept V24 V24 := kept_refl V24
      have hkF := kept_trans hkN hkR
      have hLl : (surelyL B (fun _ => brokenB week) B.boys.length).length ≤ 4 := by have := surelyL_len B (fun _ => brokenB week) B.boys.length; omega
      have hXl : X.boys.length ≤ 4 := by rw [HX.out]; exact q2
      have hMl : (surelyL X (fun _ => brokenB week) X.boys.length).length ≤ 4 := by have := surelyL_len X (fun _ => brokenB week) X.boys.length; omega
      have hLx : ∀ b ∈ surelyL B (fun _ => brokenB week) B.boys.length, b < 4 := fun b hb => by have := surelyL_lt hb; omega
      have hMx : ∀ b ∈ surelyL X (fun _ => brokenB week) X.boys.length, b < 4 := fun b hb => by have := surelyL_lt hb; omega
      have hno := andNot_bits _ (gath_lt hLx) _ (gath_lt hMx) (gath_sub fun b hb => by rw [HX.out]; exact more_must hb)
      have HG1 := Lib.hid (gather_any lv _ V24 (HLV.out.kept hkL) hLl hLx)
      have HG2 := Lib.hid (fun V (k : Kept V24 V) => gather_any mv _ V (HMV.out.kept (kept_trans hkL k)) hMl hMx)
      have HSU := Lib.hid (fun V (k : Kept V24 V) => sung_is V (HB.out.laid.kept (kept_trans hkF k)) (HG.out.kept (kept_trans hkF k)))
      clear HLV HMV
      generalize gath (surelyL B (fun _ => brokenB week) B.boys.length) = gl at *
      generalize gath (surelyL X (fun _ => brokenB week) X.boys.length) = gm at *
      clear hLx hMx hLl hMl hXl
      go_wp2_with fail
      refine HG1.out.mono ?_
      rintro e W10 ⟨rfl, hk10⟩
      go_wp2_with fail
      refine (HG2.out W10 hk10).mono ?_
      rintro e W11 ⟨rfl, hk11⟩
      have hk911 := kept_trans hk10 hk11
      go_wp2_with fail
      refine (HSU.out W11 hk911).mono ?_
      rintro e W12 ⟨rfl, hk12⟩
      go_wp2_with fail
      refine bodyPost_ret (v := .bool true) (by simp [results, Tryd.results3, go_sem]) rfl ?_
      exact ⟨rfl, kept_trans hkF (kept_trans hk911 hk12)⟩
    | true =>
      have HA := Lib.hid (HYI.out hyf)
      obtain rfl : eg = 0 := by rw [← EG.out, hyf]; rfl
      obtain rfl : ef = 0 := by rw [← EF.out, HA.out.1]; rfl
      go_wp2_with fail
      refine (HU3.out _ HA.out).mono ?_
      rintro e V25 ⟨rfl, hka⟩
      have hkR := kept_trans hkR hka
      have hkL := hka
      replace a0 := kcell hka a0
      replace a1 := kcell hka a1
      replace a2 := kcell hka a2
      replace x0 := kcell hka x0
      replace x1 := kcell hka x1
      replace x2 := kcell hka x2
      have sf : ∀ i, V25.frozen? ⟨V9.heap.size, i, none⟩ = false := fun i => ((kturns hka (fun _ => False)).frozen (Go.Ai.lt_of_cell sp0) (fun h => h)).trans (sf i)
      replace sp0 := kcell hka sp0
      replace sp1 := kcell hka sp1
      have tf : ∀ i, V25.frozen? ⟨V11.heap.size, i, none⟩ = false := fun i => ((kturns hka (fun _ => False)).frozen (Go.Ai.lt_of_cell tp0) (fun h => h)).trans (tf i)
      replace tp0 := kcell hka tp0
      replace tp1 := kcell hka tp1
      have uf : ∀ i, V25.frozen? ⟨V13.heap.size, i, none⟩ = false := fun i => ((kturns hka (fun _ => False)).frozen (Go.Ai.lt_of_cell up0) (fun h => h)).trans (uf i)
      replace up0 := kcell hka up0
      replace up1 := kcell hka up1
      have vf : ∀ i, V25.frozen? ⟨V15.heap.size, i, none⟩ = false := fun i => ((kturns hka (fun _ => False)).frozen (Go.Ai.lt_of_cell vp0) (fun h => h)).trans (vf i)
      replace vp0 := kcell hka vp0
      replace vp1 := kcell hka vp1
      have hkF := kept_trans hkN hkR
      have hLl : (surelyL B (fun _ => brokenB week) B.boys.length).length ≤ 4 := by have := surelyL_len B (fun _ => brokenB week) B.boys.length; omega
      have hXl : X.boys.length ≤ 4 := by rw [HX.out]; exact q2
      have hMl : (surelyL X (fun _ => brokenB week) X.boys.length).length ≤ 4 := by have := surelyL_len X (fun _ => brokenB week) X.boys.length; omega
      have hLx : ∀ b ∈ surelyL B (fun _ => brokenB week) B.boys.length, b < 4 := fun b hb => by have := surelyL_lt hb; omega
      have hMx : ∀ b ∈ surelyL X (fun _ => brokenB week) X.boys.length, b < 4 := fun b hb => by have := surelyL_lt hb; omega
      have hno := andNot_bits _ (gath_lt hLx) _ (gath_lt hMx) (gath_sub fun b hb => by rw [HX.out]; exact more_must hb)
      have HG1 := Lib.hid (gather_any lv _ V25 (HLV.out.kept hkL) hLl hLx)
      have HG2 := Lib.hid (fun V (k : Kept V25 V) => gather_any mv _ V (HMV.out.kept (kept_trans hkL k)) hMl hMx)
      have HSU := Lib.hid (fun V (k : Kept V25 V) => sung_is V (HB.out.laid.kept (kept_trans hkF k)) (HG.out.kept (kept_trans hkF k)))
      clear HLV HMV
      generalize gath (surelyL B (fun _ => brokenB week) B.boys.length) = gl at *
      generalize gath (surelyL X (fun _ => brokenB week) X.boys.length) = gm at *
      clear hLx hMx hLl hMl hXl
      go_wp2_with fail
      refine HG1.out.mono ?_
      rintro e W10 ⟨rfl, hk10⟩
      go_wp2_with fail
      refine (HG2.out W10 hk10).mono ?_
      rintro e W11 ⟨rfl, hk11⟩
      have hk911 := kept_trans hk10 hk11
      go_wp2_with fail
      refine (HSU.out W11 hk911).mono ?_
      rintro e W12 ⟨rfl, hk12⟩
      go_wp2_with fail
      refine bodyPost_ret (v := .bool true) (by simp [results, Tryd.results3, go_sem]) rfl ?_
      exact ⟨rfl, kept_trans hkF (kept_trans hk911 hk12)⟩
  · have hk2 : sm = sk := hsk.resolve_left hk1
    have hk3 : (sk == 1) = false := by simp; omega
    subst hk2
    clear hsk
    go_wp2_with fail
    refine (HU1.out _).mono ?_
    rintro e V19 ⟨rfl, hka⟩
    have hkR := kept_trans hkR hka
    replace a0 := kcell hka a0
    replace a1 := kcell hka a1
    replace a2 := kcell hka a2
    replace x0 := kcell hka x0
    replace x1 := kcell hka x1
    replace x2 := kcell hka x2
    have sf : ∀ i, V19.frozen? ⟨V9.heap.size, i, none⟩ = false := fun i => ((kturns hka (fun _ => False)).frozen (Go.Ai.lt_of_cell sp0) (fun h => h)).trans (sf i)
    replace sp0 := kcell hka sp0
    replace sp1 := kcell hka sp1
    have tf : ∀ i, V19.frozen? ⟨V11.heap.size, i, none⟩ = false := fun i => ((kturns hka (fun _ => False)).frozen (Go.Ai.lt_of_cell tp0) (fun h => h)).trans (tf i)
    replace tp0 := kcell hka tp0
    replace tp1 := kcell hka tp1
    have uf : ∀ i, V19.frozen? ⟨V13.heap.size, i, none⟩ = false := fun i => ((kturns hka (fun _ => False)).frozen (Go.Ai.lt_of_cell up0) (fun h => h)).trans (uf i)
    replace up0 := kcell hka up0
    replace up1 := kcell hka up1
    have vf : ∀ i, V19.frozen? ⟨V15.heap.size, i, none⟩ = false := fun i => ((kturns hka (fun _ => False)).frozen (Go.Ai.lt_of_cell vp0) (fun h => h)).trans (vf i)
    replace vp0 := kcell hka vp0
    replace vp1 := kcell hka vp1
    go_wp2_with fail
    refine (HU2.out _).mono ?_
    rintro e V20 ⟨rfl, hka⟩
    have hkR := kept_trans hkR hka
    replace a0 := kcell hka a0
    replace a1 := kcell hka a1
    replace a2 := kcell hka a2
    replace x0 := kcell hka x0
    replace x1 := kcell hka x1
    replace x2 := kcell hka x2
    have sf : ∀ i, V20.frozen? ⟨V9.heap.size, i, none⟩ = false := fun i => ((kturns hka (fun _ => False)).frozen (Go.Ai.lt_of_cell sp0) (fun h => h)).trans (sf i)
    replace sp0 := kcell hka sp0
    replace sp1 := kcell hka sp1
    have tf : ∀ i, V20.frozen? ⟨V11.heap.size, i, none⟩ = false := fun i => ((kturns hka (fun _ => False)).frozen (Go.Ai.lt_of_cell tp0) (fun h => h)).trans (tf i)
    replace tp0 := kcell hka tp0
    replace tp1 := kcell hka tp1
    have uf : ∀ i, V20.frozen? ⟨V13.heap.size, i, none⟩ = false := fun i => ((kturns hka (fun _ => False)).frozen (Go.Ai.lt_of_cell up0) (fun h => h)).trans (uf i)
    replace up0 := kcell hka up0
    replace up1 := kcell hka up1
    have vf : ∀ i, V20.frozen? ⟨V15.heap.size, i, none⟩ = false := fun i => ((kturns hka (fun _ => False)).frozen (Go.Ai.lt_of_cell vp0) (fun h => h)).trans (vf i)
    replace vp0 := kcell hka vp0
    replace vp1 := kcell hka vp1
    have h1 := highest_can (HB.out.kept (kept_trans hkN hkR)) (HG.out.kept (kept_trans hkN hkR)) hok HCB.out HXB.out ⟨k1, k2⟩
    unfold Book.val at h1
    simp only [ET.out, EF.out] at h1
    have H1 := Lib.hid h1; clear h1
    go_wp2_with fail
    refine H1.out.mono ?_
    rintro e V21 ⟨rfl, hka⟩
    clear H1
    have hkR := kept_trans hkR hka
    replace a0 := kcell hka a0
    replace a1 := kcell hka a1
    replace a2 := kcell hka a2
    replace x0 := kcell hka x0
    replace x1 := kcell hka x1
    replace x2 := kcell hka x2
    have sf : ∀ i, V21.frozen? ⟨V9.heap.size, i, none⟩ = false := fun i => ((kturns hka (fun _ => False)).frozen (Go.Ai.lt_of_cell sp0) (fun h => h)).trans (sf i)
    replace sp0 := kcell hka sp0
    replace sp1 := kcell hka sp1
    have tf : ∀ i, V21.frozen? ⟨V11.heap.size, i, none⟩ = false := fun i => ((kturns hka (fun _ => False)).frozen (Go.Ai.lt_of_cell tp0) (fun h => h)).trans (tf i)
    replace tp0 := kcell hka tp0
    replace tp1 := kcell hka tp1
    have uf : ∀ i, V21.frozen? ⟨V13.heap.size, i, none⟩ = false := fun i => ((kturns hka (fun _ => False)).frozen (Go.Ai.lt_of_cell up0) (fun h => h)).trans (uf i)
    replace up0 := kcell hka up0
    replace up1 := kcell hka up1
    have vf : ∀ i, V21.frozen? ⟨V15.heap.size, i, none⟩ = false := fun i => ((kturns hka (fun _ => False)).frozen (Go.Ai.lt_of_cell vp0) (fun h => h)).trans (vf i)
    replace vp0 := kcell hka vp0
    replace vp1 := kcell hka vp1
    have hT : Turns (fun b => b = V9.heap.size) V21 ((V21.setCell ⟨V9.heap.size, 0, none⟩ (.int .i64 t0)).setCell ⟨V9.heap.size, 1, none⟩ (.int .i64 t1)) := Turns.setCell (T := fun b => b = V9.heap.size) (Turns.setCell (T := fun b => b = V9.heap.size) (Turns.refl _ V21) rfl _ _) rfl _ _
    have tc : ∀ b o v, b ≠ V9.heap.size → V21.cell? ⟨b, o, none⟩ = some v → ((V21.setCell ⟨V9.heap.size, 0, none⟩ (.int .i64 t0)).setCell ⟨V9.heap.size, 1, none⟩ (.int .i64 t1)).cell? ⟨b, o, none⟩ = some v := fun b o v hb h => (hT.cell (Go.Ai.lt_of_cell h) hb).trans h
    have hkR : Kept V8 ((V21.setCell ⟨V9.heap.size, 0, none⟩ (.int .i64 t0)).setCell ⟨V9.heap.size, 1, none⟩ (.int .i64 t1)) := Below.setCell (p := ⟨V9.heap.size, 1, none⟩) (Below.setCell (p := ⟨V9.heap.size, 0, none⟩) hkR (show V8.heap.size ≤ V9.heap.size by omega) _) (show V8.heap.size ≤ V9.heap.size by omega) _
    have a0' := tc _ _ _ (by omega) a0
    have a1' := tc _ _ _ (by omega) a1
    have a2' := tc _ _ _ (by omega) a2
    have x0' := tc _ _ _ (by omega) x0
    have x1' := tc _ _ _ (by omega) x1
    have x2' := tc _ _ _ (by omega) x2
    have sf' : ∀ i, ((V21.setCell ⟨V9.heap.size, 0, none⟩ (.int .i64 t0)).setCell ⟨V9.heap.size, 1, none⟩ (.int .i64 t1)).frozen? ⟨V9.heap.size, i, none⟩ = false := fun i => by rw [World.frozen?_setCell, World.frozen?_setCell]; exact sf i
    have sp0' : ((V21.setCell ⟨V9.heap.size, 0, none⟩ (.int .i64 t0)).setCell ⟨V9.heap.size, 1, none⟩ (.int .i64 t1)).cell? ⟨V9.heap.size, 0, none⟩ = some (.int .i64 t0) := (cell_set_ne (by omega)).trans (cell_set_eq sp0)
    have sp1' : ((V21.setCell ⟨V9.heap.size, 0, none⟩ (.int .i64 t0)).setCell ⟨V9.heap.size, 1, none⟩ (.int .i64 t1)).cell? ⟨V9.heap.size, 1, none⟩ = some (.int .i64 t1) := cell_set_eq ((cell_set_ne (by omega)).trans sp1)
    have tf' : ∀ i, ((V21.setCell ⟨V9.heap.size, 0, none⟩ (.int .i64 t0)).setCell ⟨V9.heap.size, 1, none⟩ (.int .i64 t1)).frozen? ⟨V11.heap.size, i, none⟩ = false := fun i => (hT.frozen (Go.Ai.lt_of_cell tp0) (show ¬ V11.heap.size = V9.heap.size by omega)).trans (tf i)
    have tp0' := tc _ _ _ (by omega) tp0
    have tp1' := tc _ _ _ (by omega) tp1
    have uf' : ∀ i, ((V21.setCell ⟨V9.heap.size, 0, none⟩ (.int .i64 t0)).setCell ⟨V9.heap.size, 1, none⟩ (.int .i64 t1)).frozen? ⟨V13.heap.size, i, none⟩ = false := fun i => (hT.frozen (Go.Ai.lt_of_cell up0) (show ¬ V13.heap.size = V9.heap.size by omega)).trans (uf i)
    have up0' := tc _ _ _ (by omega) up0
    have up1' := tc _ _ _ (by omega) up1
    have vf' : ∀ i, ((V21.setCell ⟨V9.heap.size, 0, none⟩ (.int .i64 t0)).setCell ⟨V9.heap.size, 1, none⟩ (.int .i64 t1)).frozen? ⟨V15.heap.size, i, none⟩ = false := fun i => (hT.frozen (Go.Ai.lt_of_cell vp0) (show ¬ V15.heap.size = V9.heap.size by omega)).trans (vf i)
    have vp0' := tc _ _ _ (by omega) vp0
    have vp1' := tc _ _ _ (by omega) vp1
    clear hT tc
    have h1 := highest_can (HBX.out.kept hkR) (HG.out.kept (kept_trans hkN hkR)) hokX HCX.out HXX.out HWX.out
    unfold Book.val at h1
    simp only [EY.out, EG.out] at h1
    have H1 := Lib.hid h1; clear h1
    go_wp2_with fail
    generalize ((V21.setCell ⟨V9.heap.size, 0, none⟩ (.int .i64 t0)).setCell ⟨V9.heap.size, 1, none⟩ (.int .i64 t1)) = V22s at *
    have a0 := a0'
    clear a0'
    have a1 := a1'
    clear a1'
    have a2 := a2'
    clear a2'
    have x0 := x0'
    clear x0'
    have x1 := x1'
    clear x1'
    have x2 := x2'
    clear x2'
    have sf := sf'
    clear sf'
    have sp0 := sp0'
    clear sp0'
    have sp1 := sp1'
    clear sp1'
    have tf := tf'
    clear tf'
    have tp0 := tp0'
    clear tp0'
    have tp1 := tp1'
    clear tp1'
    have uf := uf'
    clear uf'
    have up0 := up0'
    clear up0'
    have up1 := up1'
    clear up1'
    have vf := vf'
    clear vf'
    have vp0 := vp0'
    clear vp0'
    have vp1 := vp1'
    clear vp1'
    refine H1.out.mono ?_
    rintro e V22 ⟨rfl, hka⟩
    clear H1
    have hkR := kept_trans hkR hka
    replace a0 := kcell hka a0
    replace a1 := kcell hka a1
    replace a2 := kcell hka a2
    replace x0 := kcell hka x0
    replace x1 := kcell hka x1
    replace x2 := kcell hka x2
    have sf : ∀ i, V22.frozen? ⟨V9.heap.size, i, none⟩ = false := fun i => ((kturns hka (fun _ => False)).frozen (Go.Ai.lt_of_cell sp0) (fun h => h)).trans (sf i)
    replace sp0 := kcell hka sp0
    replace sp1 := kcell hka sp1
    have tf : ∀ i, V22.frozen? ⟨V11.heap.size, i, none⟩ = false := fun i => ((kturns hka (fun _ => False)).frozen (Go.Ai.lt_of_cell tp0) (fun h => h)).trans (tf i)
    replace tp0 := kcell hka tp0
    replace tp1 := kcell hka tp1
    have uf : ∀ i, V22.frozen? ⟨V13.heap.size, i, none⟩ = false := fun i => ((kturns hka (fun _ => False)).frozen (Go.Ai.lt_of_cell up0) (fun h => h)).trans (uf i)
    replace up0 := kcell hka up0
    replace up1 := kcell hka up1
    have vf : ∀ i, V22.frozen? ⟨V15.heap.size, i, none⟩ = false := fun i => ((kturns hka (fun _ => False)).frozen (Go.Ai.lt_of_cell vp0) (fun h => h)).trans (vf i)
    replace vp0 := kcell hka vp0
    replace vp1 := kcell hka vp1
    have hT : Turns (fun b => b = V11.heap.size) V22 ((V22.setCell ⟨V11.heap.size, 0, none⟩ (.int .i64 y0)).setCell ⟨V11.heap.size, 1, none⟩ (.int .i64 y1)) := Turns.setCell (T := fun b => b = V11.heap.size) (Turns.setCell (T := fun b => b = V11.heap.size) (Turns.refl _ V22) rfl _ _) rfl _ _
    have tc : ∀ b o v, b ≠ V11.heap.size → V22.cell? ⟨b, o, none⟩ = some v → ((V22.setCell ⟨V11.heap.size, 0, none⟩ (.int .i64 y0)).setCell ⟨V11.heap.size, 1, none⟩ (.int .i64 y1)).cell? ⟨b, o, none⟩ = some v := fun b o v hb h => (hT.cell (Go.Ai.lt_of_cell h) hb).trans h
    have hkR : Kept V8 ((V22.setCell ⟨V11.heap.size, 0, none⟩ (.int .i64 y0)).setCell ⟨V11.heap.size, 1, none⟩ (.int .i64 y1)) := Below.setCell (p := ⟨V11.heap.size, 1, none⟩) (Below.setCell (p := ⟨V11.heap.size, 0, none⟩) hkR (show V8.heap.size ≤ V11.heap.size by omega) _) (show V8.heap.size ≤ V11.heap.size by omega) _
    have a0' := tc _ _ _ (by omega) a0
    have a1' := tc _ _ _ (by omega) a1
    have a2' := tc _ _ _ (by omega) a2
    have x0' := tc _ _ _ (by omega) x0
    have x1' := tc _ _ _ (by omega) x1
    have x2' := tc _ _ _ (by omega) x2
    have sf' : ∀ i, ((V22.setCell ⟨V11.heap.size, 0, none⟩ (.int .i64 y0)).setCell ⟨V11.heap.size, 1, none⟩ (.int .i64 y1)).frozen? ⟨V9.heap.size, i, none⟩ = false := fun i => (hT.frozen (Go.Ai.lt_of_cell sp0) (show ¬ V9.heap.size = V11.heap.size by omega)).trans (sf i)
    have sp0' := tc _ _ _ (by omega) sp0
    have sp1' := tc _ _ _ (by omega) sp1
    have tf' : ∀ i, ((V22.setCell ⟨V11.heap.size, 0, none⟩ (.int .i64 y0)).setCell ⟨V11.heap.size, 1, none⟩ (.int .i64 y1)).frozen? ⟨V11.heap.size, i, none⟩ = false := fun i => by rw [World.frozen?_setCell, World.frozen?_setCell]; exact tf i
    have tp0' : ((V22.setCell ⟨V11.heap.size, 0, none⟩ (.int .i64 y0)).setCell ⟨V11.heap.size, 1, none⟩ (.int .i64 y1)).cell? ⟨V11.heap.size, 0, none⟩ = some (.int .i64 y0) := (cell_set_ne (by omega)).trans (cell_set_eq tp0)
    have tp1' : ((V22.setCell ⟨V11.heap.size, 0, none⟩ (.int .i64 y0)).setCell ⟨V11.heap.size, 1, none⟩ (.int .i64 y1)).cell? ⟨V11.heap.size, 1, none⟩ = some (.int .i64 y1) := cell_set_eq ((cell_set_ne (by omega)).trans tp1)
    have uf' : ∀ i, ((V22.setCell ⟨V11.heap.size, 0, none⟩ (.int .i64 y0)).setCell ⟨V11.heap.size, 1, none⟩ (.int .i64 y1)).frozen? ⟨V13.heap.size, i, none⟩ = false := fun i => (hT.frozen (Go.Ai.lt_of_cell up0) (show ¬ V13.heap.size = V11.heap.size by omega)).trans (uf i)
    have up0' := tc _ _ _ (by omega) up0
    have up1' := tc _ _ _ (by omega) up1
    have vf' : ∀ i, ((V22.setCell ⟨V11.heap.size, 0, none⟩ (.int .i64 y0)).setCell ⟨V11.heap.size, 1, none⟩ (.int .i64 y1)).frozen? ⟨V15.heap.size, i, none⟩ = false := fun i => (hT.frozen (Go.Ai.lt_of_cell vp0) (show ¬ V15.heap.size = V11.heap.size by omega)).trans (vf i)
    have vp0' := tc _ _ _ (by omega) vp0
    have vp1' := tc _ _ _ (by omega) vp1
    clear hT tc
    have h1 := must_can (HB.out.kept (kept_trans hkN hkR)) (HG.out.kept (kept_trans hkN hkR)) hok HCB.out ⟨k1, k2⟩
    unfold Book.val at h1
    skip
    have H1 := Lib.hid h1; clear h1
    go_wp2_with fail
    generalize ((V22.setCell ⟨V11.heap.size, 0, none⟩ (.int .i64 y0)).setCell ⟨V11.heap.size, 1, none⟩ (.int .i64 y1)) = V23s at *
    have a0 := a0'
    clear a0'
    have a1 := a1'
    clear a1'
    have a2 := a2'
    clear a2'
    have x0 := x0'
    clear x0'
    have x1 := x1'
    clear x1'
    have x2 := x2'
    clear x2'
    have sf := sf'
    clear sf'
    have sp0 := sp0'
    clear sp0'
    have sp1 := sp1'
    clear sp1'
    have tf := tf'
    clear tf'
    have tp0 := tp0'
    clear tp0'
    have tp1 := tp1'
    clear tp1'
    have uf := uf'
    clear uf'
    have up0 := up0'
    clear up0'
    have up1 := up1'
    clear up1'
    have vf := vf'
    clear vf'
    have vp0 := vp0'
    clear vp0'
    have vp1 := vp1'
    clear vp1'
    refine H1.out.mono ?_
    rintro e V23 ⟨lv, rfl, hka, hLV⟩
    clear H1
    have hkR := kept_trans hkR hka
    replace a0 := kcell hka a0
    replace a1 := kcell hka a1
    replace a2 := kcell hka a2
    replace x0 := kcell hka x0
    replace x1 := kcell hka x1
    replace x2 := kcell hka x2
    have sf : ∀ i, V23.frozen? ⟨V9.heap.size, i, none⟩ = false := fun i => ((kturns hka (fun _ => False)).frozen (Go.Ai.lt_of_cell sp0) (fun h => h)).trans (sf i)
    replace sp0 := kcell hka sp0
    replace sp1 := kcell hka sp1
    have tf : ∀ i, V23.frozen? ⟨V11.heap.size, i, none⟩ = false := fun i => ((kturns hka (fun _ => False)).frozen (Go.Ai.lt_of_cell tp0) (fun h => h)).trans (tf i)
    replace tp0 := kcell hka tp0
    replace tp1 := kcell hka tp1
    have uf : ∀ i, V23.frozen? ⟨V13.heap.size, i, none⟩ = false := fun i => ((kturns hka (fun _ => False)).frozen (Go.Ai.lt_of_cell up0) (fun h => h)).trans (uf i)
    replace up0 := kcell hka up0
    replace up1 := kcell hka up1
    have vf : ∀ i, V23.frozen? ⟨V15.heap.size, i, none⟩ = false := fun i => ((kturns hka (fun _ => False)).frozen (Go.Ai.lt_of_cell vp0) (fun h => h)).trans (vf i)
    replace vp0 := kcell hka vp0
    replace vp1 := kcell hka vp1
    have HLV := Lib.hid hLV; clear hLV
    have h1 := must_can (HBX.out.kept hkR) (HG.out.kept (kept_trans hkN hkR)) hokX HCX.out HWX.out
    unfold Book.val at h1
    skip
    have H1 := Lib.hid h1; clear h1
    go_wp2_with fail
    refine H1.out.mono ?_
    rintro e V24 ⟨mv, rfl, hka, hMV⟩
    clear H1
    have hkR := kept_trans hkR hka
    replace a0 := kcell hka a0
    replace a1 := kcell hka a1
    replace a2 := kcell hka a2
    replace x0 := kcell hka x0
    replace x1 := kcell hka x1
    replace x2 := kcell hka x2
    have sf : ∀ i, V24.frozen? ⟨V9.heap.size, i, none⟩ = false := fun i => ((kturns hka (fun _ => False)).frozen (Go.Ai.lt_of_cell sp0) (fun h => h)).trans (sf i)
    replace sp0 := kcell hka sp0
    replace sp1 := kcell hka sp1
    have tf : ∀ i, V24.frozen? ⟨V11.heap.size, i, none⟩ = false := fun i => ((kturns hka (fun _ => False)).frozen (Go.Ai.lt_of_cell tp0) (fun h => h)).trans (tf i)
    replace tp0 := kcell hka tp0
    replace tp1 := kcell hka tp1
    have uf : ∀ i, V24.frozen? ⟨V13.heap.size, i, none⟩ = false := fun i => ((kturns hka (fun _ => False)).frozen (Go.Ai.lt_of_cell up0) (fun h => h)).trans (uf i)
    replace up0 := kcell hka up0
    replace up1 := kcell hka up1
    have vf : ∀ i, V24.frozen? ⟨V15.heap.size, i, none⟩ = false := fun i => ((kturns hka (fun _ => False)).frozen (Go.Ai.lt_of_cell vp0) (fun h => h)).trans (vf i)
    replace vp0 := kcell hka vp0
    replace vp1 := kcell hka vp1
    have HLV := Lib.hid (HLV.out.kept hka)
    have HMV := Lib.hid hMV; clear hMV
    have HU3 := Lib.hid (fun V (a : tf' = true ∧ t0 ≤ y0 ∧ y1 ≤ t1) => under_true y0 y1 t0 t1 V a.2.1 a.2.2)
    have zs := Go.Ai.lt_of_cell sp0
    have zt := Go.Ai.lt_of_cell tp0
    cases hyf : yf with
    | false =>
      obtain rfl : eg = 4 := by rw [← EG.out, hyf]; rfl
      have hkL : Kept V24 V24 := kept_refl V24
      have hkF := kept_trans hkN hkR
      have hLl : (surelyL B (fun _ => brokenB week) B.boys.length).length ≤ 4 := by have := surelyL_len B (fun _ => brokenB week) B.boys.length; omega
      have hXl : X.boys.length ≤ 4 := by rw [HX.out]; exact q2
      have hMl : (surelyL X (fun _ => brokenB week) X.boys.length).length ≤ 4 := by have := surelyL_len X (fun _ => brokenB week) X.boys.length; omega
      have hLx : ∀ b ∈ surelyL B (fun _ => brokenB week) B.boys.length, b < 4 := fun b hb => by have := surelyL_lt hb; omega
      have hMx : ∀ b ∈ surelyL X (fun _ => brokenB week) X.boys.length, b < 4 := fun b hb => by have := surelyL_lt hb; omega
      have hno := andNot_bits _ (gath_lt hLx) _ (gath_lt hMx) (gath_sub fun b hb => by rw [HX.out]; exact more_must hb)
      have HG1 := Lib.hid (gather_any lv _ V24 (HLV.out.kept hkL) hLl hLx)
      have HG2 := Lib.hid (fun V (k : Kept V24 V) => gather_any mv _ V (HMV.out.kept (kept_trans hkL k)) hMl hMx)
      have HSU := Lib.hid (fun V (k : Kept V24 V) => sung_is V (HB.out.laid.kept (kept_trans hkF k)) (HG.out.kept (kept_trans hkF k)))
      clear HLV HMV
      generalize gath (surelyL B (fun _ => brokenB week) B.boys.length) = gl at *
      generalize gath (surelyL X (fun _ => brokenB week) X.boys.length) = gm at *
      clear hLx hMx hLl hMl hXl
      go_wp2_with fail
      refine HG1.out.mono ?_
      rintro e W10 ⟨rfl, hk10⟩
      go_wp2_with fail
      refine (HG2.out W10 hk10).mono ?_
      rintro e W11 ⟨rfl, hk11⟩
      have hk911 := kept_trans hk10 hk11
      go_wp2_with fail
      refine (HSU.out W11 hk911).mono ?_
      rintro e W12 ⟨rfl, hk12⟩
      go_wp2_with fail
      refine bodyPost_ret (v := .bool true) (by simp [results, Tryd.results3, go_sem]) rfl ?_
      exact ⟨rfl, kept_trans hkF (kept_trans hk911 hk12)⟩
    | true =>
      have HA := Lib.hid (HYI.out hyf)
      obtain rfl : eg = 0 := by rw [← EG.out, hyf]; rfl
      obtain rfl : ef = 0 := by rw [← EF.out, HA.out.1]; rfl
      go_wp2_with fail
      refine (HU3.out _ HA.out).mono ?_
      rintro e V25 ⟨rfl, hka⟩
      have hkR := kept_trans hkR hka
      have hkL := hka
      replace a0 := kcell hka a0
      replace a1 := kcell hka a1
      replace a2 := kcell hka a2
      replace x0 := kcell hka x0
      replace x1 := kcell hka x1
      replace x2 := kcell hka x2
      have sf : ∀ i, V25.frozen? ⟨V9.heap.size, i, none⟩ = false := fun i => ((kturns hka (fun _ => False)).frozen (Go.Ai.lt_of_cell sp0) (fun h => h)).trans (sf i)
      replace sp0 := kcell hka sp0
      replace sp1 := kcell hka sp1
      have tf : ∀ i, V25.frozen? ⟨V11.heap.size, i, none⟩ = false := fun i => ((kturns hka (fun _ => False)).frozen (Go.Ai.lt_of_cell tp0) (fun h => h)).trans (tf i)
      replace tp0 := kcell hka tp0
      replace tp1 := kcell hka tp1
      have uf : ∀ i, V25.frozen? ⟨V13.heap.size, i, none⟩ = false := fun i => ((kturns hka (fun _ => False)).frozen (Go.Ai.lt_of_cell up0) (fun h => h)).trans (uf i)
      replace up0 := kcell hka up0
      replace up1 := kcell hka up1
      have vf : ∀ i, V25.frozen? ⟨V15.heap.size, i, none⟩ = false := fun i => ((kturns hka (fun _ => False)).frozen (Go.Ai.lt_of_cell vp0) (fun h => h)).trans (vf i)
      replace vp0 := kcell hka vp0
      replace vp1 := kcell hka vp1
      have hkF := kept_trans hkN hkR
      have hLl : (surelyL B (fun _ => brokenB week) B.boys.length).length ≤ 4 := by have := surelyL_len B (fun _ => brokenB week) B.boys.length; omega
      have hXl : X.boys.length ≤ 4 := by rw [HX.out]; exact q2
      have hMl : (surelyL X (fun _ => brokenB week) X.boys.length).length ≤ 4 := by have := surelyL_len X (fun _ => brokenB week) X.boys.length; omega
      have hLx : ∀ b ∈ surelyL B (fun _ => brokenB week) B.boys.length, b < 4 := fun b hb => by have := surelyL_lt hb; omega
      have hMx : ∀ b ∈ surelyL X (fun _ => brokenB week) X.boys.length, b < 4 := fun b hb => by have := surelyL_lt hb; omega
      have hno := andNot_bits _ (gath_lt hLx) _ (gath_lt hMx) (gath_sub fun b hb => by rw [HX.out]; exact more_must hb)
      have HG1 := Lib.hid (gather_any lv _ V25 (HLV.out.kept hkL) hLl hLx)
      have HG2 := Lib.hid (fun V (k : Kept V25 V) => gather_any mv _ V (HMV.out.kept (kept_trans hkL k)) hMl hMx)
      have HSU := Lib.hid (fun V (k : Kept V25 V) => sung_is V (HB.out.laid.kept (kept_trans hkF k)) (HG.out.kept (kept_trans hkF k)))
      clear HLV HMV
      generalize gath (surelyL B (fun _ => brokenB week) B.boys.length) = gl at *
      generalize gath (surelyL X (fun _ => brokenB week) X.boys.length) = gm at *
      clear hLx hMx hLl hMl hXl
      go_wp2_with fail
      refine HG1.out.mono ?_
      rintro e W10 ⟨rfl, hk10⟩
      go_wp2_with fail
      refine (HG2.out W10 hk10).mono ?_
      rintro e W11 ⟨rfl, hk11⟩
      have hk911 := kept_trans hk10 hk11
      go_wp2_with fail
      refine (HSU.out W11 hk911).mono ?_
      rintro e W12 ⟨rfl, hk12⟩
      go_wp2_with fail
      refine bodyPost_ret (v := .bool true) (by simp [results, Tryd.results3, go_sem]) rfl ?_
      exact ⟨rfl, kept_trans hkF (kept_trans hk911 hk12)⟩
end Go.Proofs.YtchgkfnodcbpiaaDoor
set_option linter.all false
namespace Go.Proofs.YtchgkfnodcbpiaaDoor
open Go.RowKit Go.Sort Go.Rg
set_option maxRecDepth 100000
theorem more_all (p q : Option Addr) (cap capt : Nat) (B : Book) (t : Trial) (n0 n1 n2 : Int) (W : World) (h : BookAt W p q cap capt B) (hg : Nothing W) :
    Calls Tryd.prog 3 #[B.val p q cap capt, .agg #[.int .i64 t.boy, .int .i64 t.week, .int .i64 t.note, .int .i64 t.sang], .agg #[.int .i64 n0, .int .i64 n1, .int .i64 n2]] W fun e C => e = .returned (.bool true) ∧ Kept W C := by
  cases hok : B.okB with
  | false => exact more_false p q cap capt B t n0 n1 n2 W h hg hok
  | true =>
    have h6 := (okB_boys hok).1.2.2.2.2
    by_cases e6 : B.trials.length = 6
    · exact more_full p q cap capt B t n0 n1 n2 W h hg hok e6
    cases hX : (B.more t).okB with
    | false => exact more_bad p q cap capt B t n0 n1 n2 W h hg hok (by omega) hX
    | true =>
      by_cases hc : Can (B.more t)
      · exact more_yes p q cap capt B t n0 n1 n2 W h hg hok (by omega) hX hc
      · exact more_no p q cap capt B t n0 n1 n2 W h hg hok (by omega) hX hc
end Go.Proofs.YtchgkfnodcbpiaaDoor
