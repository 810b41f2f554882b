/- Known calls, part 6: what single calls hand back, at small heaps, by the kernel's own run of the evaluator. No conditions. -/
import Derived.Test.YtcllfjjhijkakaaGreatDoorSZ
set_option linter.all false
namespace Go.Proofs.YtcllfjjhijkakaaGreatDoor
open Go.Ai
set_option maxRecDepth 1000000
noncomputable def sm6 : Ent :=
  ⟨45, [.agg ⟨[.slice (some ⟨3, 0, none⟩) 2 2, iP 4, .slice none 0 0, .slice (some ⟨4, 0, none⟩) 3 3, iP 2, .map (some 8), .func (.func 75) ⟨[]⟩ ⟨[]⟩]⟩, .slice (some ⟨13, 0, none⟩) 4 18446744073709551616], 14,
   gC ++ [hb0,
    hb1,
    hb8,
    hb2,
    hb3,
    hb9,
    (9, .cells true 2 [iP 0]),
    (10, .cells true 2 [iP 0, iP 1]),
    hb4,
    (12, .cells true 2 [iP 1]),
    (13, .cells true 3 [iP 0, iP 0, iP 0, iP 1, iP 1, iP 0, iP 2, iP 0])],
   [],
   iP 1⟩
theorem sm6_h : sm6.holds EE := ent0 _ (by kernel_rfl) (by kernel_rfl)
noncomputable def sm7 : Ent :=
  ⟨48, [.agg ⟨[.slice (some ⟨3, 0, none⟩) 2 2, iP 4, .slice none 0 0, .slice (some ⟨4, 0, none⟩) 3 3, iP 1, .map (some 8), .func (.func 75) ⟨[]⟩ ⟨[]⟩]⟩, .slice (some ⟨13, 0, none⟩) 4 18446744073709551616], 14,
   gC ++ [hb0,
    hb1,
    hb8,
    hb2,
    hb3,
    hb9,
    (9, .cells true 2 [iP 0]),
    (10, .cells true 2 [iP 0, iP 1]),
    hb4,
    (12, .cells true 2 [iP 1]),
    (13, .cells true 3 [iP 0, iP 0, iP 0, iP 1, iP 1, iP 0, iP 2, iP 0])],
   [],
   .tuple ⟨[.slice none 0 0, .bool false]⟩⟩
theorem sm7_h : sm7.holds EE := ent0 _ (by kernel_rfl) (by kernel_rfl)
noncomputable def sm9 : Ent :=
  ⟨100, [.agg ⟨[.slice (some ⟨3, 0, none⟩) 2 2, iP 4, .slice none 0 0]⟩, iP 1, iP 3, iP 8], 4,
   gC ++ [hb0],
   [],
   .tuple ⟨[iP 2, iP 0]⟩⟩
theorem sm9_h : sm9.holds EE := ent0 _ (by kernel_rfl) (by kernel_rfl)
noncomputable def sm11 : Ent :=
  ⟨100, [.agg ⟨[.slice (some ⟨3, 0, none⟩) 2 2, iP 4, .slice none 0 0]⟩, iP 1, iP 3, iP 10], 4,
   gC ++ [hb0],
   [],
   .tuple ⟨[iP 2, iP 0]⟩⟩
theorem sm11_h : sm11.holds EE := ent0 _ (by kernel_rfl) (by kernel_rfl)
noncomputable def sm13 : Ent :=
  ⟨100, [.agg ⟨[.slice (some ⟨3, 0, none⟩) 2 2, iP 4, .slice none 0 0]⟩, iP 1, iP 0, iP 18], 4,
   gC ++ [hb0],
   [],
   .tuple ⟨[iP 2, iP 0]⟩⟩
theorem sm13_h : sm13.holds EE := ent0 _ (by kernel_rfl) (by kernel_rfl)
noncomputable def sm16 : Ent :=
  ⟨48, [.agg ⟨[.slice (some ⟨3, 0, none⟩) 2 2, iP 4, .slice none 0 0, .slice (some ⟨4, 0, none⟩) 3 3, iP 1, .map (some 8), .func (.func 75) ⟨[]⟩ ⟨[]⟩]⟩, .slice (some ⟨13, 0, none⟩) 3 18446744073709551616], 14,
   gC ++ [hb0,
    hb1,
    hb8,
    hb2,
    hb3,
    hb9,
    (9, .cells true 2 [iP 0]),
    (10, .cells true 2 [iP 0, iP 1]),
    hb4,
    (12, .cells true 2 [iP 1]),
    (13, .cells true 3 [iP 0, iP 0, iP 0, iP 1, iP 2, iP 0])],
   [.cells true 4 [iP 0, iP 0, iP 0, iP 0, iP 1, iP 1, iP 2, iP 0, iP 1]],
   .tuple ⟨[.slice (some ⟨14, 0, none⟩) 3 18446744073709551616, .bool true]⟩⟩
theorem sm16_h : sm16.holds EE := ent0 _ (by kernel_rfl) (by kernel_rfl)
noncomputable def sm26 : Ent :=
  ⟨48, [.agg ⟨[.slice (some ⟨3, 0, none⟩) 2 2, iP 4, .slice none 0 0, .slice (some ⟨4, 0, none⟩) 3 3, iP 1, .map (some 8), .func (.func 75) ⟨[]⟩ ⟨[]⟩]⟩, .slice (some ⟨13, 0, none⟩) 1 18446744073709551616], 14,
   gC ++ [hb0,
    hb1,
    hb8,
    hb2,
    hb3,
    hb9,
    (9, .cells true 2 [iP 0]),
    (10, .cells true 2 [iP 0, iP 1]),
    hb4,
    (12, .cells true 2 [iP 1]),
    (13, .cells true 3 [iP 1, iP 0])],
   [.cells true 4 [iP 1, iP 0, iP 1]],
   .tuple ⟨[.slice (some ⟨14, 0, none⟩) 1 18446744073709551616, .bool true]⟩⟩
theorem sm26_h : sm26.holds EE := ent0 _ (by kernel_rfl) (by kernel_rfl)
noncomputable def sm31 : Ent :=
  ⟨48, [.agg ⟨[.slice (some ⟨3, 0, none⟩) 2 2, iP 4, .slice none 0 0, .slice (some ⟨4, 0, none⟩) 3 3, iP 1, .map (some 8), .func (.func 99) ⟨[]⟩ ⟨[.pointer (some ⟨12, 0, none⟩)]⟩]⟩, .slice (some ⟨13, 0, none⟩) 1 18446744073709551616], 14,
   gC ++ [hb0,
    hb1,
    hb5,
    hb2,
    hb3,
    hb6,
    hb7,
    (10, .cells true 2 [iP 1]),
    hb4,
    (12, .cells true 0 [iP 0]),
    (13, .cells true 3 [iP 2, iP 0])],
   [.cells true 4 [iP 2, iP 0, iP 1]],
   .tuple ⟨[.slice (some ⟨14, 0, none⟩) 1 18446744073709551616, .bool true]⟩⟩
theorem sm31_h : sm31.holds EE := ent0 _ (by kernel_rfl) (by kernel_rfl)
noncomputable def sm38 : Ent :=
  ⟨48, [.agg ⟨[.slice (some ⟨3, 0, none⟩) 2 2, iP 4, .slice none 0 0, .slice (some ⟨4, 0, none⟩) 3 3, iP 1, .map (some 8), .func (.func 99) ⟨[]⟩ ⟨[.pointer (some ⟨12, 0, none⟩)]⟩]⟩, .slice (some ⟨13, 0, none⟩) 3 18446744073709551616], 14,
   gC ++ [hb0,
    hb1,
    hb5,
    hb2,
    hb3,
    hb6,
    hb7,
    (10, .cells true 2 [iP 1]),
    hb4,
    (12, .cells true 0 [iP 0]),
    (13, .cells true 3 [iP 0, iP 0, iP 0, iP 1, iP 1, iP 0])],
   [],
   .tuple ⟨[.slice none 0 0, .bool false]⟩⟩
theorem sm38_h : sm38.holds EE := ent0 _ (by kernel_rfl) (by kernel_rfl)
noncomputable def sm45 : Ent :=
  ⟨48, [.agg ⟨[.slice (some ⟨3, 0, none⟩) 2 2, iP 4, .slice none 0 0, .slice (some ⟨4, 0, none⟩) 3 3, iP 1, .map (some 8), .func (.func 75) ⟨[]⟩ ⟨[]⟩]⟩, .slice (some ⟨12, 0, none⟩) 1 1], 13,
   gC ++ [hb0,
    hb1,
    hb5,
    hb2,
    hb3,
    hb6,
    hb7,
    (10, .cells true 2 [iP 1]),
    hb4,
    (12, .cells true 3 [iP 0, iP 0, iP 0, iP 1])],
   [],
   .tuple ⟨[.slice none 0 0, .bool false]⟩⟩
theorem sm45_h : sm45.holds EE := ent0 _ (by kernel_rfl) (by kernel_rfl)
end Go.Proofs.YtcllfjjhijkakaaGreatDoor
