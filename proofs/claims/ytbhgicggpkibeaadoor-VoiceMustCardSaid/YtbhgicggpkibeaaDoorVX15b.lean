import Derived.Test.YtbhgicggpkibeaaDoorVX15
set_option linter.all false
set_option linter.all false
namespace Go.Proofs.YtbhgicggpkibeaaDoor
open Go.RowKit Go.Sort Go.Rg
set_option maxRecDepth 100000

theorem bothEnds1_any (c : Choir) (boy which : Nat) (hw : which < 5) (n0 n1 n2 n3 n4 : Int) (bw : Nat) (A : World) (h : A.cell? ⟨bw, 0, none⟩ = some (.int .i64 (which : Int))) :
    Calls Tryd.prog 98 #[encT c boy [n0, n1, n2, n3, n4], .pointer (some ⟨bw, 0, none⟩)] A fun e C => e = .returned (.tuple #[.int .i64 ([n0, n1, n2, n3, n4].getD which 0), .bool true]) ∧ Kept A C := by
  simp only [encT, List.map_cons, List.map_nil, List.append_toArray, List.cons_append, List.nil_append, Choir.k0, Choir.k2, Choir.m]
  have hz := Go.Ai.lt_of_cell h
  rcases (show which = 0 ∨ which = 1 ∨ which = 2 ∨ which = 3 ∨ which = 4 by omega) with rfl | rfl | rfl | rfl | rfl
  all_goals
    go_enter Tryd.func98, Tryd.ntmps98
    go_wp2
    refine bodyPost_ret (by simp [results, Tryd.results98, go_sem]) rfl ⟨rfl, kept_alloc (kept_refl _) _⟩
theorem bothEnds_tells (c : Choir) (boy which : Nat) (hw : which < 5) (x : Boy) (bw : Nat) (W : World) (h : W.cell? ⟨bw, 0, none⟩ = some (.int .i64 (which : Int))) :
    Tells c boy x W 98 #[.pointer (some ⟨bw, 0, none⟩)] (fun n => (n.getD which 0, true)) :=
  ⟨enters_of Tryd.func98 (by kernel_rfl) rfl, fun A n hA hn => by
    obtain ⟨n0, n1, n2, n3, n4, rfl⟩ := truths_len hn
    exact bothEnds1_any c boy which hw n0 n1 n2 n3 n4 bw A (kcell hA h)⟩
end Go.Proofs.YtbhgicggpkibeaaDoor
