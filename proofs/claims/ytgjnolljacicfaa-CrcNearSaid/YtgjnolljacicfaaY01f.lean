import Derived.Test.YtgjnolljacicfaaY01e
namespace Go.Proofs.Ytgjnolljacicfaa.Vx
open Go Go.RowKit
set_option linter.unusedVariables false
theorem u8R {n : Int} (h : wfD (.int .u8) n = true) : 0 ≤ n ∧ n < 256 := by
  obtain ⟨h1, h2⟩ := wfi h
  have e1 : IntKind.min .u8 = 0 := rfl
  have e2 : IntKind.max .u8 = 255 := rfl
  omega
theorem u16R {n : Int} (h : wfD (.int .u16) n = true) : 0 ≤ n ∧ n < 65536 := by
  obtain ⟨h1, h2⟩ := wfi h
  have e1 : IntKind.min .u16 = 0 := rfl
  have e2 : IntKind.max .u16 = 65535 := rfl
  omega
theorem i8R {n : Int} (h : wfD (.int .i8) n = true) : -128 ≤ n ∧ n ≤ 127 := by
  obtain ⟨h1, h2⟩ := wfi h
  have e1 : IntKind.min .i8 = -128 := rfl
  have e2 : IntKind.max .i8 = 127 := rfl
  omega
theorem u32N {n : Int} (h : wfD (.int .u32) n = true) : ∃ x : BitVec 32, n = N x := by
  obtain ⟨h1, h2⟩ := wfi h
  have e1 : IntKind.min .u32 = 0 := rfl
  have e2 : IntKind.max .u32 = 4294967295 := rfl
  exact asN (by omega) (by omega)
theorem u8N {n : Int} (h : wfD (.int .u8) n = true) : ∃ x : BitVec 8, n = N x := asN (u8R h).1 (by have := (u8R h).2; omega)
theorem bytesR {l : List Int} (h : wfD (.sl (.int .u8)) l = true) : ∀ x ∈ l, 0 ≤ x ∧ x < 256 := fun x hx => u8R (wfl_mem (t := .int .u8) h hx)
theorem shortsR {l : List Int} (h : wfD (.sl (.int .u16)) l = true) : ∀ x ∈ l, 0 ≤ x ∧ x < 65536 := fun x hx => u16R (wfl_mem (t := .int .u16) h hx)
theorem t3' {b : List Int} (h : wfD (.sl TB) b = true) : (fn_W3 [.l TB b]).sel = some true := t3 b (wfl_len h) (bytesR h)
theorem t4' {a b c : Int} (k : Int) (h0 : wfD (.int .u32) a = true) (h1 : wfD (.int .u8) b = true) (h2 : wfD (.int .u8) c = true) : (fn_W4 [.n a, .n b, .n c, .n k]).sel = some true := by
  obtain ⟨x, rfl⟩ := u32N h0
  obtain ⟨y, rfl⟩ := u8N h1
  obtain ⟨z, rfl⟩ := u8N h2
  exact t4 x y z k
theorem t5' {a n c b : Int} (h0 : wfD (.int .u32) a = true) (h1 : wfD (.int .i8) n = true) (h2 : wfD (.int .u8) c = true) (h3 : wfD (.int .u8) b = true) : (fn_W5 [.n a, .n n, .n c, .n b]).sel = some true := by
  obtain ⟨x, rfl⟩ := u32N h0
  obtain ⟨z, rfl⟩ := u8N h2
  exact t5 x n z b (i8R h1) (u8R h3)
theorem t6' {b w to : List Int} (h0 : wfD (.sl TB) b = true) (h1 : wfD (.sl (.int .u16)) w = true) (h2 : wfD (.sl TB) to = true) : (fn_W6 [.l TB b, .l (.int .u16) w, .l TB to]).sel = some true := t6 b w to (wfl_len h0) (wfl_len h2) (bytesR h0) (shortsR h1) (bytesR h2)
theorem t7' {b : List Int} {n c : Int} (h0 : wfD (.sl TB) b = true) (h1 : wfD (.int .u16) n = true) (h2 : wfD (.int .u8) c = true) : (fn_W7 [.l TB b, .n n, .n c]).sel = some true := by
  obtain ⟨z, rfl⟩ := u8N h2
  exact t7 b n z (wfl_len h0) (bytesR h0) (u16R h1)
theorem t8' {s a b c d m n : Int} (h0 : wfD (.int .u32) s = true) (h1 : wfD (.int .u8) a = true) (h2 : wfD (.int .u8) b = true) (h3 : wfD (.int .u8) c = true) (h4 : wfD (.int .u8) d = true) (h5 : wfD (.int .u16) m = true) (h6 : wfD (.int .u16) n = true) : (fn_W8 [.n s, .n a, .n b, .n c, .n d, .n m, .n n]).sel = some true := by
  obtain ⟨s, rfl⟩ := u32N h0
  obtain ⟨a, rfl⟩ := u8N h1
  obtain ⟨b, rfl⟩ := u8N h2
  obtain ⟨c, rfl⟩ := u8N h3
  obtain ⟨d, rfl⟩ := u8N h4
  exact t8 s a b c d m n (u16R h5) (u16R h6)
theorem t9' {l0 l1 l2 : List Int} {x n : Int} (h0 : wfD (.sl TB) l0 = true) (h1 : wfD (.sl TB) l1 = true) (h2 : wfD (.sl TB) l2 = true) (h3 : wfD (.int .u32) x = true) (h4 : wfD (.int .u8) n = true) : (fn_W9 [.l TB l0, .l TB l1, .l TB l2, .n x, .n n]).sel = some true := by
  obtain ⟨x, rfl⟩ := u32N h3
  exact t9 l0 l1 l2 x n (u8R h4) (bytesR h0) (bytesR h1) (bytesR h2)
end Go.Proofs.Ytgjnolljacicfaa.Vx
