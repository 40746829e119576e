/- each function, whatever it is handed -/
import Derived.Test.YtfdekahbojoodaaOt
namespace Go.Proofs.Ytfdekahbojoodaa
set_option linter.unusedVariables false
set_option linter.unusedSimpArgs false
open Go.RowKit

def putM (l : List Int) (w n : Int) : List Int × Int := if isW w then (if fitsN w.toNat n then (l ++ bytesN w.toNat n, 0) else ([], 112)) else ([], 111)
def gotM (l : List Int) (p w : Int) : Int × Int := if isW w then (if p < 0 ∨ (l.length : Int) < p then (0, 2) else if (l.length : Int) < p + w then (0, 110) else (numN w.toNat (l.drop p.toNat), 0)) else (0, 111)
def sizeM (ws : List Int) : Int × Int := if ws.all isW then (ws.sum, 0) else (0, 111)
def layM (ws ns : List Int) : List Int × Int := if ws.all isW then (if ns.length = ws.length then (if fitsA ws ns then (layN ws ns, 0) else ([], 112)) else ([], 2)) else ([], 111)
def splitM (ws b : List Int) : List Int × Int := if ws.all isW then (if (b.length : Int) < ws.sum then ([], 110) else if ws.sum < (b.length : Int) then ([], 113) else (splitN ws b, 0)) else ([], 111)
theorem put_m (l : List Int) (w n : Int) (hl : l.length ≤ 90000) : DFun Try.prog 10 [.slf 1 l.length (l.flatMap uc8), .val (.int .i64 w), .val (.int .u64 n)] [] (.tup [.slf 1 (putM l w n).1.length ((putM l w n).1.flatMap uc8), .val (.int .i64 (putM l w n).2)]) [] := by
  by_cases h : isW w = true
  · obtain ⟨h1, h2⟩ := isW_iff.1 h
    obtain ⟨k, rfl⟩ := Int.eq_ofNat_of_zero_le (show 0 ≤ w by omega)
    by_cases hf : fitsN k n = true
    · have e : putM l k n = (l ++ bytesN k n, 0) := by simp [putM, h, hf]
      rw [e]; exact put_ok l k n hl (by omega) hf
    · have e : putM l k n = ([], 112) := by simp [putM, h, hf]
      rw [e]; exact wk_nil2 (put_big l k n (by omega) (by simpa using hf))
  · have e : putM l w n = ([], 111) := by simp [putM, h]
    rw [e]; exact wk_nil2 (put_w l w n (by simpa using h))
theorem get_m (l : List Int) (p w : Int) (hl : l.length ≤ 9223372036854775807) : DFun Try.prog 15 [.slf 1 l.length (l.flatMap uc8), .val (.int .i64 p), .val (.int .i64 w)] [] (.tup [.val (.int .u64 (gotM l p w).1), .val (.int .i64 (gotM l p w).2)]) [] := by
  by_cases h : isW w = true
  · obtain ⟨h1, h2⟩ := isW_iff.1 h
    by_cases hp : p < 0 ∨ (l.length : Int) < p
    · have e : gotM l p w = (0, 2) := by simp [gotM, h, hp]
      rw [e]; exact get_arg l p w h hp
    · obtain ⟨k, rfl⟩ := Int.eq_ofNat_of_zero_le (show 0 ≤ w by omega)
      obtain ⟨q, rfl⟩ := Int.eq_ofNat_of_zero_le (show 0 ≤ p by omega)
      by_cases hs : (l.length : Int) < q + k
      · have e : gotM l q k = (0, 110) := by unfold gotM; rw [if_pos h, if_neg hp, if_pos hs]
        rw [e]; exact get_short l hl q k (by omega) (by omega) (by omega)
      · have e : gotM l q k = (numN k (l.drop q), 0) := by unfold gotM; rw [if_pos h, if_neg hp, if_neg hs]; rfl
        rw [e]; exact get_ok l hl q k (by omega) (by omega)
  · have e : gotM l p w = (0, 111) := by simp [gotM, h]
    rw [e]; exact get_w l p w (by simpa using h)
theorem size_m (ws : List Int) (hn : ws.length ≤ 10000) : DFun Try.prog 21 [.slf 1 ws.length (ws.flatMap ic)] [] (.tup [.val (.int .i64 (sizeM ws).1), .val (.int .i64 (sizeM ws).2)]) [] := by
  by_cases h : ws.all isW = true
  · have e : sizeM ws = (ws.sum, 0) := by unfold sizeM; rw [if_pos h]
    rw [e]; exact size_ok ws h hn
  · have e : sizeM ws = (0, 111) := by unfold sizeM; rw [if_neg h]
    rw [e]; exact size_no ws (by simpa using h)
theorem lay_m (ws ns : List Int) (hn : ws.length ≤ 1000) : DFun Try.prog 23 [.slf 1 ws.length (ws.flatMap ic), .slf 1 ns.length (ns.flatMap uc)] [] (.tup [.slf 1 (layM ws ns).1.length ((layM ws ns).1.flatMap uc8), .val (.int .i64 (layM ws ns).2)]) [] := by
  by_cases h : ws.all isW = true
  · by_cases hl : ns.length = ws.length
    · by_cases hf : fitsA ws ns = true
      · have e : layM ws ns = (layN ws ns, 0) := by unfold layM; rw [if_pos h, if_pos hl, if_pos hf]
        rw [e]; exact freeze (lay_o ws ns h hl hn (fitsA_at hf)) rfl
      · have e : layM ws ns = ([], 112) := by unfold layM; rw [if_pos h, if_pos hl, if_neg hf]
        obtain ⟨j, h1, h2, h3⟩ := fitsA_not hl (by simpa using hf)
        rw [e]; exact wk_nil2 (lay_big ws ns h hl hn j h1 h2 h3)
    · have e : layM ws ns = ([], 2) := by unfold layM; rw [if_pos h, if_neg hl]
      rw [e]; exact wk_nil2 (lay_arg ws ns h hl)
  · have e : layM ws ns = ([], 111) := by unfold layM; rw [if_neg h]
    rw [e]; exact wk_nil2 (lay_w ws ns (by simpa using h))
theorem split_m (ws b : List Int) (hn : ws.length ≤ 1000) : DFun Try.prog 25 [.slf 1 ws.length (ws.flatMap ic), .slf 1 b.length (b.flatMap uc8)] [] (.tup [.slf 1 (splitM ws b).1.length ((splitM ws b).1.flatMap uc), .val (.int .i64 (splitM ws b).2)]) [] := by
  by_cases h : ws.all isW = true
  · by_cases h1 : (b.length : Int) < ws.sum
    · have e : splitM ws b = ([], 110) := by unfold splitM; rw [if_pos h, if_pos h1]
      rw [e]; exact wk_nil2 (split_short ws b h (by omega) h1)
    · by_cases h2 : ws.sum < (b.length : Int)
      · have e : splitM ws b = ([], 113) := by unfold splitM; rw [if_pos h, if_neg h1, if_pos h2]
        rw [e]; exact wk_nil2 (split_more ws b h (by omega) h2)
      · have e : splitM ws b = (splitN ws b, 0) := by unfold splitM; rw [if_pos h, if_neg h1, if_neg h2]
        rw [e]; exact freeze (split_o ws b h hn (by omega)) rfl
  · have e : splitM ws b = ([], 111) := by unfold splitM; rw [if_neg h]
    rw [e]; exact wk_nil2 (split_w ws b (by simpa using h))

end Go.Proofs.Ytfdekahbojoodaa
