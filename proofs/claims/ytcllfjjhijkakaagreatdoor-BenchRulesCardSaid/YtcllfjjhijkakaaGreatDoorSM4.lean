/- Known calls, part 4: what single calls hand back, at small heaps, by the kernel's own run of the evaluator. No conditions. -/
import Derived.Test.YtcllfjjhijkakaaGreatDoorSZ
set_option linter.all false
namespace Go.Proofs.YtcllfjjhijkakaaGreatDoor
open Go.Ai
set_option maxRecDepth 1000000
noncomputable def sm4 : Ent :=
  ⟨100, [.agg ⟨[.slice (some ⟨3, 0, none⟩) 2 2, iP 4, .slice none 0 0]⟩, iP 0, iP 0, iP 18], 4,
   gC ++ [hb0],
   [],
   .tuple ⟨[iP 2, iP 0]⟩⟩
theorem sm4_h : sm4.holds EE := ent0 _ (by kernel_rfl) (by kernel_rfl)
noncomputable def sm20 : Ent :=
  ⟨9, [.agg ⟨[.slice (some ⟨3, 0, none⟩) 2 2, iP 4, .slice none 0 0]⟩], 4,
   gC ++ [hb0],
   [],
   .tuple ⟨[.bool true, iP 0]⟩⟩
theorem sm20_h : sm20.holds EE := ent0 _ (by kernel_rfl) (by kernel_rfl)
noncomputable def sm22 : Ent :=
  ⟨48, [.agg ⟨[.slice (some ⟨3, 0, none⟩) 2 2, iP 4, .slice none 0 0, .slice (some ⟨4, 0, none⟩) 3 3, iP 1, .map (some 8), .func (.func 75) ⟨[]⟩ ⟨[]⟩]⟩, .slice (some ⟨12, 0, none⟩) 2 18446744073709551616], 13,
   gC ++ [hb0,
    hb1,
    hb5,
    hb2,
    hb3,
    hb6,
    hb7,
    (10, .cells true 2 [iP 1]),
    hb4,
    (12, .cells true 3 [iP 1, iP 0, iP 2, iP 0])],
   [],
   .tuple ⟨[.slice none 0 0, .bool false]⟩⟩
theorem sm22_h : sm22.holds EE := ent0 _ (by kernel_rfl) (by kernel_rfl)
noncomputable def sm32 : Ent :=
  ⟨48, [.agg ⟨[.slice (some ⟨3, 0, none⟩) 2 2, iP 4, .slice none 0 0, .slice (some ⟨4, 0, none⟩) 3 3, iP 1, .map (some 8), .func (.func 99) ⟨[]⟩ ⟨[.pointer (some ⟨12, 0, none⟩)]⟩]⟩, .slice (some ⟨13, 0, none⟩) 1 18446744073709551616], 14,
   gC ++ [hb0,
    hb1,
    hb5,
    hb2,
    hb3,
    hb6,
    hb7,
    (10, .cells true 2 [iP 1]),
    hb4,
    (12, .cells true 0 [iP 0]),
    (13, .cells true 3 [iP 1, iP 0])],
   [.cells true 4 [iP 1, iP 0, iP 1]],
   .tuple ⟨[.slice (some ⟨14, 0, none⟩) 1 18446744073709551616, .bool true]⟩⟩
theorem sm32_h : sm32.holds EE := ent0 _ (by kernel_rfl) (by kernel_rfl)
noncomputable def sm40 : Ent :=
  ⟨48, [.agg ⟨[.slice (some ⟨3, 0, none⟩) 2 2, iP 4, .slice none 0 0, .slice (some ⟨4, 0, none⟩) 3 3, iP 1, .map (some 8), .func (.func 99) ⟨[]⟩ ⟨[.pointer (some ⟨12, 0, none⟩)]⟩]⟩, .slice (some ⟨13, 0, none⟩) 3 18446744073709551616], 14,
   gC ++ [hb0,
    hb1,
    hb5,
    hb2,
    hb3,
    hb6,
    hb7,
    (10, .cells true 2 [iP 1]),
    hb4,
    (12, .cells true 0 [iP 1]),
    (13, .cells true 3 [iP 0, iP 0, iP 0, iP 1, iP 1, iP 0])],
   [],
   .tuple ⟨[.slice none 0 0, .bool false]⟩⟩
theorem sm40_h : sm40.holds EE := ent0 _ (by kernel_rfl) (by kernel_rfl)
noncomputable def sm49 : Ent :=
  ⟨48, [.agg ⟨[.slice (some ⟨3, 0, none⟩) 2 2, iP 4, .slice none 0 0, .slice (some ⟨4, 0, none⟩) 3 3, iP 1, .map (some 8), .func (.func 75) ⟨[]⟩ ⟨[]⟩]⟩, .slice none 0 0], 12,
   gC ++ [hb0,
    hb1,
    hb5,
    hb2,
    hb3,
    hb6,
    hb7,
    (10, .cells true 2 [iP 1]),
    hb4],
   [],
   .tuple ⟨[.slice none 0 0, .bool true]⟩⟩
theorem sm49_h : sm49.holds EE := ent0 _ (by kernel_rfl) (by kernel_rfl)
end Go.Proofs.YtcllfjjhijkakaaGreatDoor
