import Derived.Test.YtpkmihelefkphaaVxLook
import Derived.Test.YtpkmihelefkphaaProg
import Derived.KernelRfl
namespace Go.Proofs.Ytpkmihelefkphaa.Vx
open Go Go.RowKit
set_option linter.unusedVariables false
set_option maxRecDepth 100000
set_option maxHeartbeats 0
theorem tabOk {α : Type} {f g : Nat → α} (n : Nat) (h : ∀ t, Nat.ble n t = true → f t = g t) (m : (List.range n).map f = (List.range n).map g) : f = g := by
  funext t
  cases e : Nat.ble n t with
  | true => exact h t e
  | false =>
    have ht : t < n := by
      rcases Nat.lt_or_ge t n with q | q
      · exact q
      · rw [Nat.ble_eq_true_of_le q] at e; cases e
    exact List.map_inj_left.1 m t (List.mem_range.2 ht)
noncomputable def lkUnd (t : TypeId) : Option TypeDesc := bif Nat.ble 55 t then Try.prog.underlying t else
  (bif Nat.ble 27 t then (bif Nat.ble 41 t then (bif Nat.ble 48 t then (bif Nat.ble 51 t then (bif Nat.ble 53 t then (bif Nat.ble 54 t then (some TypeDesc.unsafePointer)
       else (some (TypeDesc.struct { toList := [{ name := "Size_", type := 12, offset := 0, embedded := false, tag := "", pkgPath := "", byteOffset := 0 }, { name := "PtrBytes", type := 12, offset := 1, embedded := false, tag := "", pkgPath := "", byteOffset := 8 }, { name := "Hash", type := 45, offset := 2, embedded := false, tag := "", pkgPath := "", byteOffset := 16 }, { name := "TFlag", type := 46, offset := 3, embedded := false, tag := "", pkgPath := "", byteOffset := 20 }, { name := "Align_", type := 5, offset := 4, embedded := false, tag := "", pkgPath := "", byteOffset := 21 }, { name := "FieldAlign_", type := 5, offset := 5, embedded := false, tag := "", pkgPath := "", byteOffset := 22 }, { name := "Kind_", type := 47, offset := 6, embedded := false, tag := "", pkgPath := "", byteOffset := 23 }, { name := "Equal", type := 48, offset := 7, embedded := false, tag := "", pkgPath := "", byteOffset := 24 }, { name := "GCData", type := 49, offset := 8, embedded := false, tag := "", pkgPath := "", byteOffset := 32 }, { name := "Str", type := 50, offset := 9, embedded := false, tag := "", pkgPath := "", byteOffset := 40 }, { name := "PtrToThis", type := 51, offset := 10, embedded := false, tag := "", pkgPath := "", byteOffset := 44 }] })))
      else (bif Nat.ble 52 t then (some (TypeDesc.struct { toList := [{ name := "Size_", type := 12, offset := 0, embedded := false, tag := "", pkgPath := "", byteOffset := 0 }, { name := "PtrBytes", type := 12, offset := 1, embedded := false, tag := "", pkgPath := "", byteOffset := 8 }, { name := "Hash", type := 45, offset := 2, embedded := false, tag := "", pkgPath := "", byteOffset := 16 }, { name := "TFlag", type := 46, offset := 3, embedded := false, tag := "", pkgPath := "", byteOffset := 20 }, { name := "Align_", type := 5, offset := 4, embedded := false, tag := "", pkgPath := "", byteOffset := 21 }, { name := "FieldAlign_", type := 5, offset := 5, embedded := false, tag := "", pkgPath := "", byteOffset := 22 }, { name := "Kind_", type := 47, offset := 6, embedded := false, tag := "", pkgPath := "", byteOffset := 23 }, { name := "Equal", type := 48, offset := 7, embedded := false, tag := "", pkgPath := "", byteOffset := 24 }, { name := "GCData", type := 49, offset := 8, embedded := false, tag := "", pkgPath := "", byteOffset := 32 }, { name := "Str", type := 50, offset := 9, embedded := false, tag := "", pkgPath := "", byteOffset := 40 }, { name := "PtrToThis", type := 51, offset := 10, embedded := false, tag := "", pkgPath := "", byteOffset := 44 }] }))
       else (some (TypeDesc.int IntKind.i32))))
     else (bif Nat.ble 49 t then (bif Nat.ble 50 t then (some (TypeDesc.int IntKind.i32))
       else (some (TypeDesc.pointer 5)))
      else (some (TypeDesc.func { toList := [54, 54] } { toList := [4] } false))))
    else (bif Nat.ble 44 t then (bif Nat.ble 46 t then (some (TypeDesc.int IntKind.u8))
      else (bif Nat.ble 45 t then (some (TypeDesc.int IntKind.u32))
       else (some (TypeDesc.func { toList := [] } { toList := [3] } false))))
     else (bif Nat.ble 42 t then (some (TypeDesc.struct { toList := [{ name := "_", type := 41, offset := 0, embedded := false, tag := "", pkgPath := "runtime", byteOffset := 0 }] }))
      else (some (TypeDesc.array 0 16)))))
   else (bif Nat.ble 34 t then (bif Nat.ble 37 t then (bif Nat.ble 39 t then (some (TypeDesc.struct { toList := [{ name := "_interface", type := 17, offset := 0, embedded := false, tag := "", pkgPath := "runtime", byteOffset := 0 }, { name := "concrete", type := 17, offset := 1, embedded := false, tag := "", pkgPath := "runtime", byteOffset := 8 }, { name := "asserted", type := 17, offset := 2, embedded := false, tag := "", pkgPath := "runtime", byteOffset := 16 }, { name := "missingMethod", type := 9, offset := 3, embedded := false, tag := "", pkgPath := "runtime", byteOffset := 24 }] }))
      else (bif Nat.ble 38 t then (some (TypeDesc.func { toList := [] } { toList := [9] } false))
       else (some (TypeDesc.func { toList := [25, 9] } { toList := [25] } false))))
     else (bif Nat.ble 35 t then (bif Nat.ble 36 t then (some (TypeDesc.func { toList := [9, 3] } { toList := [4] } false))
       else (some (TypeDesc.func { toList := [9] } { toList := [9] } false)))
      else (some (TypeDesc.func { toList := [9, 9] } { toList := [4] } false))))
    else (bif Nat.ble 30 t then (bif Nat.ble 32 t then (bif Nat.ble 33 t then (some (TypeDesc.func { toList := [25] } { toList := [4] } false))
       else (some (TypeDesc.func { toList := [25] } { toList := [31] } false)))
      else (bif Nat.ble 31 t then (some (TypeDesc.slice 25))
       else (some (TypeDesc.func { toList := [9] } { toList := [25, 28] } false))))
     else (bif Nat.ble 28 t then (bif Nat.ble 29 t then (some (TypeDesc.tuple { toList := [25, 28] }))
       else (some (TypeDesc.int IntKind.i64)))
      else (some (TypeDesc.func { toList := [25, 25] } { toList := [4] } false))))))
  else (bif Nat.ble 13 t then (bif Nat.ble 20 t then (bif Nat.ble 23 t then (bif Nat.ble 25 t then (bif Nat.ble 26 t then (some (TypeDesc.func { toList := [9] } { toList := [25] } false))
       else (some (TypeDesc.slice 9)))
      else (bif Nat.ble 24 t then (some (TypeDesc.func { toList := [9] } { toList := [4] } false))
       else (some (TypeDesc.func { toList := [] } { toList := [4] } false))))
     else (bif Nat.ble 21 t then (bif Nat.ble 22 t then (some (TypeDesc.func { toList := [21] } { toList := [4] } false))
       else (some (TypeDesc.int IntKind.i32)))
      else (some (TypeDesc.interface { toList := [] }))))
    else (bif Nat.ble 16 t then (bif Nat.ble 18 t then (some (TypeDesc.struct { toList := [{ name := "typ", type := 17, offset := 0, embedded := false, tag := "", pkgPath := "internal/runtime/maps", byteOffset := 0 }] }))
      else (bif Nat.ble 17 t then (some (TypeDesc.pointer 53))
       else (some (TypeDesc.pointer 43))))
     else (bif Nat.ble 14 t then (bif Nat.ble 15 t then (some (TypeDesc.pointer 40))
       else (some (TypeDesc.struct { toList := [{ name := "msg", type := 9, offset := 0, embedded := false, tag := "", pkgPath := "runtime", byteOffset := 0 }, { name := "addr", type := 12, offset := 1, embedded := false, tag := "", pkgPath := "runtime", byteOffset := 16 }] })))
      else (some (TypeDesc.struct { toList := [{ name := "msg", type := 9, offset := 0, embedded := false, tag := "", pkgPath := "runtime", byteOffset := 0 }, { name := "addr", type := 12, offset := 1, embedded := false, tag := "", pkgPath := "runtime", byteOffset := 16 }] })))))
   else (bif Nat.ble 6 t then (bif Nat.ble 9 t then (bif Nat.ble 11 t then (bif Nat.ble 12 t then (some (TypeDesc.int IntKind.u64))
       else (some TypeDesc.string))
      else (some TypeDesc.string))
     else (bif Nat.ble 7 t then (some (TypeDesc.struct { toList := [{ name := "x", type := 2, offset := 0, embedded := false, tag := "", pkgPath := "runtime", byteOffset := 0 }, { name := "y", type := 3, offset := 1, embedded := false, tag := "", pkgPath := "runtime", byteOffset := 8 }, { name := "signed", type := 4, offset := 2, embedded := false, tag := "", pkgPath := "runtime", byteOffset := 16 }, { name := "code", type := 6, offset := 3, embedded := false, tag := "", pkgPath := "runtime", byteOffset := 17 }] }))
      else (some (TypeDesc.int IntKind.u8))))
    else (bif Nat.ble 3 t then (bif Nat.ble 4 t then (bif Nat.ble 5 t then (some (TypeDesc.int IntKind.u8))
       else (some TypeDesc.bool))
      else (some (TypeDesc.int IntKind.i64)))
     else (bif Nat.ble 1 t then (bif Nat.ble 2 t then (some (TypeDesc.int IntKind.i64))
       else (some (TypeDesc.func { toList := [] } { toList := [] } false)))
      else (some (TypeDesc.tuple { toList := [] })))))))
theorem lkUnd_ok : lkUnd = Try.prog.underlying := tabOk 55 (fun t h => by unfold lkUnd; rw [h]; rfl) (by kernel_rfl)
noncomputable def lkSz (t : TypeId) : Option Nat := bif Nat.ble 55 t then szOf Try.prog t else
  (bif Nat.ble 27 t then (bif Nat.ble 41 t then (bif Nat.ble 48 t then (bif Nat.ble 51 t then (bif Nat.ble 53 t then (bif Nat.ble 54 t then (some 1)
       else (some 11))
      else (bif Nat.ble 52 t then (some 11)
       else (some 1)))
     else (some 1))
    else (bif Nat.ble 44 t then (some 1)
     else (some 0)))
   else (bif Nat.ble 34 t then (bif Nat.ble 37 t then (bif Nat.ble 39 t then (some 4)
      else (some 1))
     else (some 1))
    else (some 1)))
  else (bif Nat.ble 13 t then (bif Nat.ble 20 t then (some 1)
    else (bif Nat.ble 16 t then (some 1)
     else (bif Nat.ble 14 t then (bif Nat.ble 15 t then (some 1)
       else (some 2))
      else (some 2))))
   else (bif Nat.ble 6 t then (bif Nat.ble 9 t then (some 1)
     else (bif Nat.ble 7 t then (some 4)
      else (some 1)))
    else (some 1))))
theorem lkSz_ok : lkSz = szOf Try.prog := tabOk 55 (fun t h => by unfold lkSz; rw [h]; rfl) (by kernel_rfl)
noncomputable def lkAgg (t : TypeId) : Option Bool := bif Nat.ble 55 t then aggB Try.prog t else
  (bif Nat.ble 27 t then (bif Nat.ble 41 t then (bif Nat.ble 48 t then (bif Nat.ble 51 t then (bif Nat.ble 53 t then (bif Nat.ble 54 t then (some false)
       else (some true))
      else (bif Nat.ble 52 t then (some true)
       else (some false)))
     else (some false))
    else (bif Nat.ble 44 t then (some false)
     else (some true)))
   else (bif Nat.ble 34 t then (bif Nat.ble 37 t then (bif Nat.ble 39 t then (some true)
      else (some false))
     else (some false))
    else (some false)))
  else (bif Nat.ble 13 t then (bif Nat.ble 20 t then (some false)
    else (bif Nat.ble 16 t then (bif Nat.ble 18 t then (some true)
      else (some false))
     else (bif Nat.ble 14 t then (bif Nat.ble 15 t then (some false)
       else (some true))
      else (some true))))
   else (bif Nat.ble 6 t then (bif Nat.ble 9 t then (some false)
     else (bif Nat.ble 7 t then (some true)
      else (some false)))
    else (some false))))
theorem lkAgg_ok : lkAgg = aggB Try.prog := tabOk 55 (fun t h => by unfold lkAgg; rw [h]; rfl) (by kernel_rfl)
noncomputable def lkTy (t : TypeId) : Option Ty := bif Nat.ble 55 t then tyOf Try.prog TF t else
  (bif Nat.ble 27 t then (bif Nat.ble 41 t then (bif Nat.ble 48 t then (bif Nat.ble 51 t then (bif Nat.ble 53 t then none
      else (bif Nat.ble 52 t then none
       else (some (Ty.int IntKind.i32))))
     else (bif Nat.ble 49 t then (bif Nat.ble 50 t then (some (Ty.int IntKind.i32))
       else none)
      else none))
    else (bif Nat.ble 44 t then (bif Nat.ble 46 t then (some (Ty.int IntKind.u8))
      else (bif Nat.ble 45 t then (some (Ty.int IntKind.u32))
       else none))
     else none))
   else (bif Nat.ble 34 t then none
    else (bif Nat.ble 30 t then (bif Nat.ble 32 t then none
      else (bif Nat.ble 31 t then (some (Ty.sl (Ty.sl Ty.str)))
       else none))
     else (bif Nat.ble 28 t then (bif Nat.ble 29 t then none
       else (some (Ty.int IntKind.i64)))
      else none))))
  else (bif Nat.ble 13 t then (bif Nat.ble 20 t then (bif Nat.ble 23 t then (bif Nat.ble 25 t then (bif Nat.ble 26 t then none
       else (some (Ty.sl Ty.str)))
      else none)
     else (bif Nat.ble 21 t then (bif Nat.ble 22 t then none
       else (some (Ty.int IntKind.i32)))
      else none))
    else (bif Nat.ble 16 t then none
     else (bif Nat.ble 14 t then (bif Nat.ble 15 t then none
       else (some (Ty.pair Ty.str (Ty.int IntKind.u64))))
      else (some (Ty.pair Ty.str (Ty.int IntKind.u64))))))
   else (bif Nat.ble 6 t then (bif Nat.ble 9 t then (bif Nat.ble 11 t then (bif Nat.ble 12 t then (some (Ty.int IntKind.u64))
       else (some Ty.str))
      else (some Ty.str))
     else (bif Nat.ble 7 t then (some (Ty.pair (Ty.int IntKind.i64) (Ty.pair (Ty.int IntKind.i64) (Ty.pair Ty.bool (Ty.int IntKind.u8)))))
      else (some (Ty.int IntKind.u8))))
    else (bif Nat.ble 3 t then (bif Nat.ble 4 t then (bif Nat.ble 5 t then (some (Ty.int IntKind.u8))
       else (some Ty.bool))
      else (some (Ty.int IntKind.i64)))
     else (bif Nat.ble 1 t then (bif Nat.ble 2 t then (some (Ty.int IntKind.i64))
       else none)
      else none)))))
theorem lkTy_ok : lkTy = tyOf Try.prog TF := tabOk 55 (fun t h => by unfold lkTy; rw [h]; rfl) (by kernel_rfl)
noncomputable def lkZes (t : TypeId) : Option (List SV) := bif Nat.ble 55 t then zeroEs Try.prog t else
  (bif Nat.ble 27 t then (bif Nat.ble 41 t then (bif Nat.ble 48 t then (bif Nat.ble 51 t then (bif Nat.ble 53 t then (bif Nat.ble 54 t then (some [SV.nilptr])
       else (some [SV.int IntKind.u64 0, SV.int IntKind.u64 0, SV.int IntKind.u32 0, SV.int IntKind.u8 0, SV.int IntKind.u8 0, SV.int IntKind.u8 0, SV.int IntKind.u8 0, SV.nilfn, SV.nilptr, SV.int IntKind.i32 0, SV.int IntKind.i32 0]))
      else (bif Nat.ble 52 t then (some [SV.int IntKind.u64 0, SV.int IntKind.u64 0, SV.int IntKind.u32 0, SV.int IntKind.u8 0, SV.int IntKind.u8 0, SV.int IntKind.u8 0, SV.int IntKind.u8 0, SV.nilfn, SV.nilptr, SV.int IntKind.i32 0, SV.int IntKind.i32 0])
       else (some [SV.int IntKind.i32 0])))
     else (bif Nat.ble 49 t then (bif Nat.ble 50 t then (some [SV.int IntKind.i32 0])
       else (some [SV.nilptr]))
      else (some [SV.nilfn])))
    else (bif Nat.ble 44 t then (bif Nat.ble 46 t then (some [SV.int IntKind.u8 0])
      else (bif Nat.ble 45 t then (some [SV.int IntKind.u32 0])
       else (some [SV.nilfn])))
     else (some [])))
   else (bif Nat.ble 34 t then (bif Nat.ble 37 t then (bif Nat.ble 39 t then (some [SV.nilptr, SV.nilptr, SV.nilptr, SV.str { data := { toList := [] } }])
      else (some [SV.nilfn]))
     else (some [SV.nilfn]))
    else (bif Nat.ble 30 t then (bif Nat.ble 32 t then (some [SV.nilfn])
      else (bif Nat.ble 31 t then (some [SV.nilsl])
       else (some [SV.nilfn])))
     else (bif Nat.ble 28 t then (bif Nat.ble 29 t then none
       else (some [SV.int IntKind.i64 0]))
      else (some [SV.nilfn])))))
  else (bif Nat.ble 13 t then (bif Nat.ble 20 t then (bif Nat.ble 23 t then (bif Nat.ble 25 t then (bif Nat.ble 26 t then (some [SV.nilfn])
       else (some [SV.nilsl]))
      else (some [SV.nilfn]))
     else (bif Nat.ble 21 t then (bif Nat.ble 22 t then (some [SV.nilfn])
       else (some [SV.int IntKind.i32 0]))
      else (some [SV.nilif])))
    else (bif Nat.ble 16 t then (some [SV.nilptr])
     else (bif Nat.ble 14 t then (bif Nat.ble 15 t then (some [SV.nilptr])
       else (some [SV.str { data := { toList := [] } }, SV.int IntKind.u64 0]))
      else (some [SV.str { data := { toList := [] } }, SV.int IntKind.u64 0]))))
   else (bif Nat.ble 6 t then (bif Nat.ble 9 t then (bif Nat.ble 11 t then (bif Nat.ble 12 t then (some [SV.int IntKind.u64 0])
       else (some [SV.str { data := { toList := [] } }]))
      else (some [SV.str { data := { toList := [] } }]))
     else (bif Nat.ble 7 t then (some [SV.int IntKind.i64 0, SV.int IntKind.i64 0, SV.bool false, SV.int IntKind.u8 0])
      else (some [SV.int IntKind.u8 0])))
    else (bif Nat.ble 3 t then (bif Nat.ble 4 t then (bif Nat.ble 5 t then (some [SV.int IntKind.u8 0])
       else (some [SV.bool false]))
      else (some [SV.int IntKind.i64 0]))
     else (bif Nat.ble 1 t then (bif Nat.ble 2 t then (some [SV.int IntKind.i64 0])
       else (some [SV.nilfn]))
      else none)))))
theorem lkZes_ok : lkZes = zeroEs Try.prog := tabOk 55 (fun t h => by unfold lkZes; rw [h]; rfl) (by kernel_rfl)
noncomputable def lkHeld (t : TypeId) : Bool := bif Nat.ble 55 t then Try.prog.stoodInHeld t else
  (bif Nat.ble 27 t then (bif Nat.ble 41 t then (bif Nat.ble 48 t then (bif Nat.ble 51 t then (bif Nat.ble 53 t then (bif Nat.ble 54 t then false
       else true)
      else (bif Nat.ble 52 t then true
       else false))
     else false)
    else (bif Nat.ble 44 t then false
     else (bif Nat.ble 42 t then true
      else false)))
   else (bif Nat.ble 34 t then (bif Nat.ble 37 t then (bif Nat.ble 39 t then true
      else false)
     else false)
    else false))
  else (bif Nat.ble 13 t then (bif Nat.ble 20 t then false
    else (bif Nat.ble 16 t then (bif Nat.ble 18 t then true
      else false)
     else (bif Nat.ble 14 t then (bif Nat.ble 15 t then false
       else true)
      else true)))
   else false))
theorem lkHeld_ok : lkHeld = Try.prog.stoodInHeld := tabOk 55 (fun t h => by unfold lkHeld; rw [h]; rfl) (by kernel_rfl)
noncomputable def lkEqG (t : TypeId) : Bool := bif Nat.ble 55 t then Try.prog.eqGuardType Try.prog.depth t else
  false
theorem lkEqG_ok : lkEqG = fun t => Try.prog.eqGuardType Try.prog.depth t := tabOk 55 (fun t h => by unfold lkEqG; rw [h]; rfl) (by kernel_rfl)
noncomputable def lkFn (t : FuncId) : Option Func := bif Nat.ble 45 t then Try.prog.funcs[t]? else
  (bif Nat.ble 22 t then (bif Nat.ble 33 t then (bif Nat.ble 39 t then (bif Nat.ble 42 t then (bif Nat.ble 43 t then (bif Nat.ble 44 t then (some Try.f44)
       else (some Try.f43))
      else (some Try.f42))
     else (bif Nat.ble 40 t then (bif Nat.ble 41 t then (some Try.f41)
       else (some Try.f40))
      else (some Try.f39)))
    else (bif Nat.ble 36 t then (bif Nat.ble 37 t then (bif Nat.ble 38 t then (some Try.f38)
       else (some Try.f37))
      else (some Try.f36))
     else (bif Nat.ble 34 t then (bif Nat.ble 35 t then (some Try.f35)
       else (some Try.f34))
      else (some Try.f33))))
   else (bif Nat.ble 27 t then (bif Nat.ble 30 t then (bif Nat.ble 31 t then (bif Nat.ble 32 t then (some Try.f32)
       else (some Try.f31))
      else (some Try.f30))
     else (bif Nat.ble 28 t then (bif Nat.ble 29 t then (some Try.f29)
       else (some Try.f28))
      else (some Try.f27)))
    else (bif Nat.ble 24 t then (bif Nat.ble 25 t then (bif Nat.ble 26 t then (some Try.f26)
       else (some Try.f25))
      else (some Try.f24))
     else (bif Nat.ble 23 t then (some Try.f23)
      else (some Try.f22)))))
  else (bif Nat.ble 11 t then (bif Nat.ble 16 t then (bif Nat.ble 19 t then (bif Nat.ble 20 t then (bif Nat.ble 21 t then (some Try.f21)
       else (some Try.f20))
      else (some Try.f19))
     else (bif Nat.ble 17 t then (bif Nat.ble 18 t then (some Try.f18)
       else (some Try.f17))
      else (some Try.f16)))
    else (bif Nat.ble 13 t then (bif Nat.ble 14 t then (bif Nat.ble 15 t then (some Try.f15)
       else (some Try.f14))
      else (some Try.f13))
     else (bif Nat.ble 12 t then (some Try.f12)
      else (some Try.f11))))
   else (bif Nat.ble 5 t then (bif Nat.ble 8 t then (bif Nat.ble 9 t then (bif Nat.ble 10 t then (some Try.f10)
       else (some Try.f9))
      else (some Try.f8))
     else (bif Nat.ble 6 t then (bif Nat.ble 7 t then (some Try.f7)
       else (some Try.f6))
      else (some Try.f5)))
    else (bif Nat.ble 2 t then (bif Nat.ble 3 t then (bif Nat.ble 4 t then (some Try.f4)
       else (some Try.f3))
      else (some Try.f2))
     else (bif Nat.ble 1 t then (some Try.f1)
      else (some Try.f0))))))
theorem lkFn_ok : lkFn = fun f => Try.prog.funcs[f]? := tabOk 45 (fun t h => by unfold lkFn; rw [h]; rfl) (by kernel_rfl)
noncomputable def LK : Look := { info? := Try.prog.info?, underlying := lkUnd, fn := lkFn, eqG := lkEqG, stoodInHeld := lkHeld, sz := lkSz, agg := lkAgg, ty := lkTy, zes := lkZes }
theorem LK_eq : LK = Look.of Try.prog := by
  unfold LK Look.of
  rw [lkUnd_ok, lkFn_ok, lkEqG_ok, lkHeld_ok, lkSz_ok, lkAgg_ok, lkTy_ok, lkZes_ok]
theorem boxC_lk {md : Bool} {cs : FuncId → Option CSpec} {f : Nat} {ls : LoopF} {B : FBox} {env : List Dat} : Lk.boxC md LK cs f ls B env = boxC md Try.prog cs f ls B env := by rw [LK_eq, lk_boxC]
theorem stepC_lk {md : Bool} {cs : FuncId → Option CSpec} {f i : Nat} {ls : LoopF} {B : LBox} {env : List Dat} : Lk.stepC md LK cs f i ls B env = stepC md Try.prog cs f i ls B env := by rw [LK_eq, lk_stepC]
theorem stepMC_lk {md : Bool} {cs : FuncId → Option CSpec} {f i : Nat} {ls : LoopF} {B : MBox} {env : List Dat} : Lk.stepMC md LK cs f i ls B env = stepMC md Try.prog cs f i ls B env := by rw [LK_eq, lk_stepMC]
theorem boxCN_lk {nils : List (Nat × Ty)} {md : Bool} {cs : FuncId → Option CSpec} {f : Nat} {ls : LoopF} {B : FBox} {env : List Dat} : Lk.boxCN nils md LK cs f ls B env = boxCN nils md Try.prog cs f ls B env := by rw [LK_eq, lk_boxCN]
theorem boxCV_lk {nils : List (Option Nat × Nat × CK)} {md : Bool} {cs : FuncId → Option CSpec} {f : Nat} {ls : LoopF} {B : FBox} {env : List Dat} : Lk.boxCV nils md LK cs f ls B env = boxCV nils md Try.prog cs f ls B env := by rw [LK_eq, lk_boxCV]
theorem lawB_lk {md : Bool} {cs : FuncId → Option CSpec} {f : Nat} {ls : LoopF} {args : List SV} : Lk.lawB md LK cs f ls args = lawB md Try.prog cs f ls args := by rw [LK_eq, lk_lawB]
end Go.Proofs.Ytpkmihelefkphaa.Vx
