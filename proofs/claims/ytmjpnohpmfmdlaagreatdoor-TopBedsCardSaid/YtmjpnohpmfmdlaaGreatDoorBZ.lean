/- maps.Copy out of a map that holds nothing: a known call, by hand. No conditions. -/
import Derived.Test.YtmjpnohpmfmdlaaGreatDoorBG
import Derived.Test.YtmjpnohpmfmdlaaGreatDoorProg
import Derived.Maps.RangeWalk
import Derived.Laws.IdiomRangeMap
import Derived.WalkKit
set_option linter.all false
namespace Go.Proofs.YtmjpnohpmfmdlaaGreatDoor
open Go.Ai Go.RowKit
set_option maxRecDepth 1000000
noncomputable def zc0 : Ent := ⟨282, [.map (some 6), .map none], 7, gC ++ [(6, .map [] 0)], [], .tuple ⟨[]⟩⟩
theorem zc0_ok : zc0.okS EE.G = true := by kernel_rfl
theorem und233 : Tryz.prog.underlying 233 = some (.map 345 3) := by kernel_rfl
theorem copy_nil (pd : Nat) (w : World) : Calls Tryz.prog 282 #[.map (some pd), .map none] w fun e w' => e = .returned (.tuple #[]) ∧ w' = w.alloc (.mapIter none 0 #[] 0) := by
  have hrg := run_range_nilMap (P := Tryz.prog) w 233 _ _ und233
  have hnx : ∀ ty, (Instr.next (.pointer (some ⟨w.heap.size, 0, none⟩)) false ty).run Tryz.prog (w.alloc (.mapIter none 0 #[] 0)) = _ := fun ty => run_next_nilMap _ ty 0 0 #[]
  go_enter Tryz.func282, Tryz.ntmps282
  go_wp2
  refine wp_loop_rounds 1 ?_
  rw [rounds_succ]
  go_wp2
  go_end0
  exact ⟨rfl, rfl⟩
theorem fn282 : ∃ fn, EE.P.funcs[282]? = some fn ∧ fn.body.isNone = false ∧ (fn.name == "runtime.NumGoroutine") = false := ⟨Tryz.f282, by kernel_rfl, by kernel_rfl, by kernel_rfl⟩
theorem after_alloc (e : Ent) (j : Nat → RB) (w : World) (o : Obj) (h : e.outs = []) : After e j j w (w.alloc o) where
  os := rfl
  tape := rfl
  output := rfl
  size := by simp
  old := fun _ _ => rfl
  heap := fun r hr => heap_alloc_old w o hr
  new := fun i o h2 => by rw [h] at h2; simp at h2
  inj := fun i i' h2 => by rw [h] at h2; simp at h2
theorem zc0_h : zc0.holds EE := by
  refine ⟨zc0_ok, fun _ => ⟨fn282, fun j w I => ?_⟩⟩
  refine (callsIn_wide.2 (copy_nil (j 6).blk w)).mono ?_
  rintro e w' ⟨rfl, rfl⟩
  exact ⟨j, rfl, after_alloc zc0 j w _ rfl⟩
end Go.Proofs.YtmjpnohpmfmdlaaGreatDoor
