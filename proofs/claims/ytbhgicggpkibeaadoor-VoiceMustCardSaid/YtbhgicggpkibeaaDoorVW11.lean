import Derived.Test.YtbhgicggpkibeaaDoorVW10
set_option linter.all false
set_option linter.all false
namespace Go.Proofs.YtbhgicggpkibeaaDoor
open Go.RowKit Go.Sort
set_option maxRecDepth 100000

theorem known_any (l0 l1 h0 h1 g0 g1 t0 t1 ls b0 b1 : Int) (w : World) : Calls Tryd.prog 143 #[.agg #[.int .i64 l0, .int .i64 l1, .int .i64 h0, .int .i64 h1, .int .i64 g0, .int .i64 g1, .int .i64 t0, .int .i64 t1, .int .i64 ls, .int .i64 b0, .int .i64 b1]] w fun e w' => e = .returned (.agg #[.int .i64 l0, .int .i64 l1, .int .i64 h0, .int .i64 h1, .int .i64 g0, .int .i64 g1, .int .i64 t0, .int .i64 t1, .int .i64 b0, .int .i64 b1]) ∧ Kept w w' := by
  go_enter Tryd.func143, Tryd.ntmps143
  go_wp2
  refine bodyPost_ret (v := .agg #[.int .i64 l0, .int .i64 l1, .int .i64 h0, .int .i64 h1, .int .i64 g0, .int .i64 g1, .int .i64 t0, .int .i64 t1, .int .i64 b0, .int .i64 b1]) (by simp [results, Tryd.results143, go_sem]) rfl ⟨rfl, ?_⟩
  unfold Kept
  repeat (first | exact Below.refl _ _ | refine Below.alloc ?_ (by simp) _ | refine Below.setCell ?_ (by simp [Addr.add]; done) _ )

end Go.Proofs.YtbhgicggpkibeaaDoor
