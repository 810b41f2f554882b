/- Known calls, part 5: what single calls hand back, at small heaps, by the kernel's own run of the evaluator. No conditions. -/
import Derived.Test.YtcllfjjhijkakaaGreatDoorSZ
set_option linter.all false
namespace Go.Proofs.YtcllfjjhijkakaaGreatDoor
open Go.Ai
set_option maxRecDepth 1000000
noncomputable def sm5 : Ent :=
  ⟨100, [.agg ⟨[.slice (some ⟨3, 0, none⟩) 2 2, iP 4, .slice none 0 0]⟩, iP 1, iP 0, iP 6], 4,
   gC ++ [hb0],
   [],
   .tuple ⟨[iP 0, iP 0]⟩⟩
theorem sm5_h : sm5.holds EE := ent0 _ (by kernel_rfl) (by kernel_rfl)
noncomputable def sm8 : Ent :=
  ⟨48, [.agg ⟨[.slice (some ⟨3, 0, none⟩) 2 2, iP 4, .slice none 0 0, .slice (some ⟨4, 0, none⟩) 3 3, iP 2, .map (some 8), .func (.func 75) ⟨[]⟩ ⟨[]⟩]⟩, .slice (some ⟨13, 0, none⟩) 4 18446744073709551616], 14,
   gC ++ [hb0,
    hb1,
    hb8,
    hb2,
    hb3,
    hb9,
    (9, .cells true 2 [iP 0]),
    (10, .cells true 2 [iP 0, iP 1]),
    hb4,
    (12, .cells true 2 [iP 1]),
    (13, .cells true 3 [iP 0, iP 0, iP 0, iP 1, iP 1, iP 0, iP 2, iP 0])],
   [.cells true 4 [iP 0, iP 0, iP 0, iP 0, iP 1, iP 1, iP 1, iP 0, iP 1, iP 2, iP 0, iP 1]],
   .tuple ⟨[.slice (some ⟨14, 0, none⟩) 4 18446744073709551616, .bool true]⟩⟩
theorem sm8_h : sm8.holds EE := ent0 _ (by kernel_rfl) (by kernel_rfl)
noncomputable def sm10 : Ent :=
  ⟨100, [.agg ⟨[.slice (some ⟨3, 0, none⟩) 2 2, iP 4, .slice none 0 0]⟩, iP 1, iP 3, iP 18], 4,
   gC ++ [hb0],
   [],
   .tuple ⟨[iP 2, iP 0]⟩⟩
theorem sm10_h : sm10.holds EE := ent0 _ (by kernel_rfl) (by kernel_rfl)
noncomputable def sm12 : Ent :=
  ⟨100, [.agg ⟨[.slice (some ⟨3, 0, none⟩) 2 2, iP 4, .slice none 0 0]⟩, iP 1, iP 0, iP 8], 4,
   gC ++ [hb0],
   [],
   .tuple ⟨[iP 2, iP 0]⟩⟩
theorem sm12_h : sm12.holds EE := ent0 _ (by kernel_rfl) (by kernel_rfl)
noncomputable def sm14 : Ent :=
  ⟨100, [.agg ⟨[.slice (some ⟨3, 0, none⟩) 2 2, iP 4, .slice none 0 0]⟩, iP 0, iP 3, iP 8], 4,
   gC ++ [hb0],
   [],
   .tuple ⟨[iP 1, iP 0]⟩⟩
theorem sm14_h : sm14.holds EE := ent0 _ (by kernel_rfl) (by kernel_rfl)
noncomputable def sm15 : Ent :=
  ⟨100, [.agg ⟨[.slice (some ⟨3, 0, none⟩) 2 2, iP 4, .slice none 0 0]⟩, iP 0, iP 3, iP 10], 4,
   gC ++ [hb0],
   [],
   .tuple ⟨[iP 1, iP 0]⟩⟩
theorem sm15_h : sm15.holds EE := ent0 _ (by kernel_rfl) (by kernel_rfl)
noncomputable def sm27 : Ent :=
  ⟨48, [.agg ⟨[.slice (some ⟨3, 0, none⟩) 2 2, iP 4, .slice none 0 0, .slice (some ⟨4, 0, none⟩) 3 3, iP 1, .map (some 8), .func (.func 75) ⟨[]⟩ ⟨[]⟩]⟩, .slice (some ⟨12, 0, none⟩) 1 18446744073709551616], 13,
   gC ++ [hb0,
    hb1,
    hb5,
    hb2,
    hb3,
    hb6,
    hb7,
    (10, .cells true 2 [iP 1]),
    hb4,
    (12, .cells true 3 [iP 2, iP 0])],
   [.cells true 4 [iP 2, iP 0, iP 1]],
   .tuple ⟨[.slice (some ⟨13, 0, none⟩) 1 18446744073709551616, .bool true]⟩⟩
theorem sm27_h : sm27.holds EE := ent0 _ (by kernel_rfl) (by kernel_rfl)
noncomputable def sm34 : Ent :=
  ⟨48, [.agg ⟨[.slice (some ⟨3, 0, none⟩) 2 2, iP 4, .slice none 0 0, .slice (some ⟨4, 0, none⟩) 3 3, iP 1, .map (some 8), .func (.func 75) ⟨[]⟩ ⟨[]⟩]⟩, .slice (some ⟨12, 0, none⟩) 3 18446744073709551616], 13,
   gC ++ [hb0,
    hb1,
    hb5,
    hb2,
    hb3,
    hb6,
    hb7,
    (10, .cells true 2 [iP 1]),
    hb4,
    (12, .cells true 3 [iP 0, iP 0, iP 0, iP 1, iP 2, iP 0])],
   [],
   .tuple ⟨[.slice none 0 0, .bool false]⟩⟩
theorem sm34_h : sm34.holds EE := ent0 _ (by kernel_rfl) (by kernel_rfl)
noncomputable def sm41 : Ent :=
  ⟨48, [.agg ⟨[.slice (some ⟨3, 0, none⟩) 2 2, iP 4, .slice none 0 0, .slice (some ⟨4, 0, none⟩) 3 3, iP 1, .map (some 8), .func (.func 75) ⟨[]⟩ ⟨[]⟩]⟩, .slice (some ⟨12, 0, none⟩) 2 18446744073709551616], 13,
   gC ++ [hb0,
    hb1,
    hb5,
    hb2,
    hb3,
    hb6,
    hb7,
    (10, .cells true 2 [iP 1]),
    hb4,
    (12, .cells true 3 [iP 0, iP 0, iP 0, iP 1])],
   [],
   .tuple ⟨[.slice none 0 0, .bool false]⟩⟩
theorem sm41_h : sm41.holds EE := ent0 _ (by kernel_rfl) (by kernel_rfl)
noncomputable def sm46 : Ent :=
  ⟨48, [.agg ⟨[.slice (some ⟨3, 0, none⟩) 2 2, iP 4, .slice none 0 0, .slice (some ⟨4, 0, none⟩) 3 3, iP 1, .map (some 8), .func (.func 99) ⟨[]⟩ ⟨[.pointer (some ⟨12, 0, none⟩)]⟩]⟩, .slice (some ⟨13, 0, none⟩) 1 18446744073709551616], 14,
   gC ++ [hb0,
    hb1,
    hb5,
    hb2,
    hb3,
    hb6,
    hb7,
    (10, .cells true 2 [iP 1]),
    hb4,
    (12, .cells true 0 [iP 1]),
    (13, .cells true 3 [iP 2, iP 0])],
   [],
   .tuple ⟨[.slice none 0 0, .bool false]⟩⟩
theorem sm46_h : sm46.holds EE := ent0 _ (by kernel_rfl) (by kernel_rfl)
end Go.Proofs.YtcllfjjhijkakaaGreatDoor
