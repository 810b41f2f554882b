/- maps.Copy out of a map that holds nothing: known calls, by hand. No conditions. -/
import Derived.Test.YtejlmnfioifniaaGreatDoorPSZ
import Derived.Maps.RangeWalk
import Derived.Laws.IdiomRangeMap
import Derived.WalkKit
set_option linter.all false
namespace Go.Proofs.YtejlmnfioifniaaGreatDoor
open Go.Ai Go.RowKit
set_option maxRecDepth 1000000
set_option linter.all false
noncomputable def zc0 : Ent := ⟨114, [.map (some 5), .map none], 6, gC ++ [(5, .map [] 0)], [], .tuple ⟨[]⟩⟩
noncomputable def zc1 : Ent := ⟨114, [.map (some 5), .map (some 6)], 7, gC ++ [(5, .map [] 0), (6, .map [] 0)], [], .tuple ⟨[]⟩⟩
theorem zc0_ok : zc0.okS EE.G = true := by kernel_rfl
theorem zc1_ok : zc1.okS EE.G = true := by kernel_rfl
theorem und64 : Tryz.prog.underlying 118 = some (.map 95 3) := by kernel_rfl
theorem copy_nil (pd : Nat) (w : World) : Calls Tryz.prog 114 #[.map (some pd), .map none] w fun e w' => e = .returned (.tuple #[]) ∧ w' = w.alloc (.mapIter none 0 #[] 0) := by
  have hrg := run_range_nilMap (P := Tryz.prog) w 118 _ _ und64
  have hnx : ∀ ty, (Instr.next (.pointer (some ⟨w.heap.size, 0, none⟩)) false ty).run Tryz.prog (w.alloc (.mapIter none 0 #[] 0)) = _ := fun ty => run_next_nilMap _ ty 0 0 #[]
  go_enter Tryz.func114, Tryz.ntmps114
  go_wp2
  refine wp_loop_rounds 1 ?_
  rw [rounds_succ]
  go_wp2
  go_end0
  exact ⟨rfl, rfl⟩
theorem copy_empty (pd ps : Nat) (w : World) (c : Nat) (hs : w.heap[ps]? = some (.map #[] c)) : Calls Tryz.prog 114 #[.map (some pd), .map (some ps)] w fun e w' => e = .returned (.tuple #[]) ∧ w' = w.alloc (.mapIter (some ps) c #[] c) := by
  have hrg := run_range_map (P := Tryz.prog) w 118 _ _ ps #[] c und64 hs
  have hnx : ∀ ty, (Instr.next (.pointer (some ⟨w.heap.size, 0, none⟩)) false ty).run Tryz.prog (w.alloc (.mapIter (some ps) c #[] c)) = .ok (.tuple #[.bool false]) (w.alloc (.mapIter (some ps) c #[] c)) := fun ty => by
    rcases run_next_map w ty ps c c #[] #[] c hs (by simp) (Nat.le_refl _) with ⟨_, h⟩ | ⟨e, he, _⟩
    · exact h
    · simp [leftOf] at he
  go_enter Tryz.func114, Tryz.ntmps114
  go_wp2
  refine wp_loop_rounds 1 ?_
  rw [rounds_succ]
  go_wp2
  go_end0
  exact ⟨rfl, rfl⟩
theorem fn82 : ∃ fn, EE.P.funcs[114]? = some fn ∧ fn.body.isNone = false ∧ (fn.name == "runtime.NumGoroutine") = false := ⟨Tryz.f114, by kernel_rfl, by kernel_rfl, by kernel_rfl⟩
theorem after_alloc (e : Ent) (j : Nat → RB) (w : World) (o : Obj) (h : e.outs = []) : After e j j w (w.alloc o) where
  os := rfl
  tape := rfl
  output := rfl
  size := by simp
  old := fun _ _ => rfl
  heap := fun r hr => heap_alloc_old w o hr
  new := fun i o h2 => by rw [h] at h2; simp at h2
  inj := fun i i' h2 => by rw [h] at h2; simp at h2
theorem zc0_h : zc0.holds EE := by
  refine ⟨zc0_ok, fun _ => ⟨fn82, fun j w I => ?_⟩⟩
  refine (callsIn_wide.2 (copy_nil (j 5).blk w)).mono ?_
  rintro e w' ⟨rfl, rfl⟩
  exact ⟨j, rfl, after_alloc zc0 j w _ rfl⟩
theorem zc1_h : zc1.holds EE := by
  refine ⟨zc1_ok, fun _ => ⟨fn82, fun j w I => ?_⟩⟩
  have hb : w.heap[(j 6).blk]? = some (.map #[] 0) := (I.low 6 0 (.map [] 0) (Ent.get zc1_ok 6)).2.2.2.1
  refine (callsIn_wide.2 (copy_empty (j 5).blk (j 6).blk w 0 hb)).mono ?_
  rintro e w' ⟨rfl, rfl⟩
  exact ⟨j, rfl, after_alloc zc1 j w _ rfl⟩
noncomputable def zcT : List Ent := [zc0, zc1]
theorem zcT_holds : ∀ e ∈ zcT, e.holds EE :=
  List.forall_mem_cons.2 ⟨zc0_h, List.forall_mem_cons.2 ⟨zc1_h, (fun _ h => by cases h)⟩⟩
end Go.Proofs.YtejlmnfioifniaaGreatDoor
