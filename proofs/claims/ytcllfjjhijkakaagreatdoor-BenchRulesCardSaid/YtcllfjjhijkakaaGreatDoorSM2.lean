/- Known calls, part 2: what single calls hand back, at small heaps, by the kernel's own run of the evaluator. No conditions. -/
import Derived.Test.YtcllfjjhijkakaaGreatDoorSZ
set_option linter.all false
namespace Go.Proofs.YtcllfjjhijkakaaGreatDoor
open Go.Ai
set_option maxRecDepth 1000000
noncomputable def sm2 : Ent :=
  ⟨100, [.agg ⟨[.slice (some ⟨3, 0, none⟩) 2 2, iP 4, .slice none 0 0]⟩, iP 0, iP 0, iP 20], 4,
   gC ++ [hb0],
   [],
   .tuple ⟨[iP 2, iP 0]⟩⟩
theorem sm2_h : sm2.holds EE := ent0 _ (by kernel_rfl) (by kernel_rfl)
noncomputable def sm18 : Ent :=
  ⟨48, [.agg ⟨[.slice (some ⟨3, 0, none⟩) 2 2, iP 4, .slice none 0 0, .slice (some ⟨4, 0, none⟩) 3 3, iP 1, .map (some 8), .func (.func 75) ⟨[]⟩ ⟨[]⟩]⟩, .slice (some ⟨13, 0, none⟩) 2 18446744073709551616], 14,
   gC ++ [hb0,
    hb1,
    hb8,
    hb2,
    hb3,
    hb9,
    (9, .cells true 2 [iP 0]),
    (10, .cells true 2 [iP 0, iP 1]),
    hb4,
    (12, .cells true 2 [iP 1]),
    (13, .cells true 3 [iP 0, iP 0, iP 0, iP 1])],
   [.cells true 4 [iP 0, iP 0, iP 0, iP 0, iP 1, iP 1]],
   .tuple ⟨[.slice (some ⟨14, 0, none⟩) 2 18446744073709551616, .bool true]⟩⟩
theorem sm18_h : sm18.holds EE := ent0 _ (by kernel_rfl) (by kernel_rfl)
noncomputable def sm23 : Ent :=
  ⟨48, [.agg ⟨[.slice (some ⟨3, 0, none⟩) 2 2, iP 4, .slice none 0 0, .slice (some ⟨4, 0, none⟩) 3 3, iP 1, .map (some 8), .func (.func 99) ⟨[]⟩ ⟨[.pointer (some ⟨12, 0, none⟩)]⟩]⟩, .slice (some ⟨13, 0, none⟩) 2 18446744073709551616], 14,
   gC ++ [hb0,
    hb1,
    hb5,
    hb2,
    hb3,
    hb6,
    hb7,
    (10, .cells true 2 [iP 1]),
    hb4,
    (12, .cells true 0 [iP 0]),
    (13, .cells true 3 [iP 1, iP 0, iP 2, iP 0])],
   [],
   .tuple ⟨[.slice none 0 0, .bool false]⟩⟩
theorem sm23_h : sm23.holds EE := ent0 _ (by kernel_rfl) (by kernel_rfl)
noncomputable def sm33 : Ent :=
  ⟨48, [.agg ⟨[.slice (some ⟨3, 0, none⟩) 2 2, iP 4, .slice none 0 0, .slice (some ⟨4, 0, none⟩) 3 3, iP 1, .map (some 8), .func (.func 75) ⟨[]⟩ ⟨[]⟩]⟩, .slice (some ⟨13, 0, none⟩) 1 1], 14,
   gC ++ [hb0,
    hb1,
    hb8,
    hb2,
    hb3,
    hb9,
    (9, .cells true 2 [iP 0]),
    (10, .cells true 2 [iP 0, iP 1]),
    hb4,
    (12, .cells true 2 [iP 1]),
    (13, .cells true 3 [iP 0, iP 0, iP 0, iP 1])],
   [.cells true 4 [iP 0, iP 0, iP 0]],
   .tuple ⟨[.slice (some ⟨14, 0, none⟩) 1 18446744073709551616, .bool true]⟩⟩
theorem sm33_h : sm33.holds EE := ent0 _ (by kernel_rfl) (by kernel_rfl)
noncomputable def sm39 : Ent :=
  ⟨48, [.agg ⟨[.slice (some ⟨3, 0, none⟩) 2 2, iP 4, .slice none 0 0, .slice (some ⟨4, 0, none⟩) 3 3, iP 1, .map (some 8), .func (.func 99) ⟨[]⟩ ⟨[.pointer (some ⟨12, 0, none⟩)]⟩]⟩, .slice (some ⟨13, 0, none⟩) 3 18446744073709551616], 14,
   gC ++ [hb0,
    hb1,
    hb5,
    hb2,
    hb3,
    hb6,
    hb7,
    (10, .cells true 2 [iP 1]),
    hb4,
    (12, .cells true 0 [iP 1]),
    (13, .cells true 3 [iP 0, iP 0, iP 0, iP 1, iP 2, iP 0])],
   [],
   .tuple ⟨[.slice none 0 0, .bool false]⟩⟩
theorem sm39_h : sm39.holds EE := ent0 _ (by kernel_rfl) (by kernel_rfl)
noncomputable def sm47 : Ent :=
  ⟨48, [.agg ⟨[.slice (some ⟨3, 0, none⟩) 2 2, iP 4, .slice none 0 0, .slice (some ⟨4, 0, none⟩) 3 3, iP 1, .map (some 8), .func (.func 99) ⟨[]⟩ ⟨[.pointer (some ⟨12, 0, none⟩)]⟩]⟩, .slice (some ⟨13, 0, none⟩) 1 18446744073709551616], 14,
   gC ++ [hb0,
    hb1,
    hb5,
    hb2,
    hb3,
    hb6,
    hb7,
    (10, .cells true 2 [iP 1]),
    hb4,
    (12, .cells true 0 [iP 1]),
    (13, .cells true 3 [iP 1, iP 0])],
   [],
   .tuple ⟨[.slice none 0 0, .bool false]⟩⟩
theorem sm47_h : sm47.holds EE := ent0 _ (by kernel_rfl) (by kernel_rfl)
end Go.Proofs.YtcllfjjhijkakaaGreatDoor
