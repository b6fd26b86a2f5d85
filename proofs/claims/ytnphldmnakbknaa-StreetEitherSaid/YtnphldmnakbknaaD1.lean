import Derived.Test.YtnphldmnakbknaaT3
set_option linter.all false
/- Dark places (mathematics). -/
namespace Go.Proofs.Ytnphldmnakbknaa
open Go Ev
noncomputable section
def llF (c:List AV) (q:Int) (xs:List AV) (j:Nat):Nat→List Int
 | 0=>[]
 | i + 1=>if lgB c q (intAt xs (0 + i * 1)).toNat j=true then llF c q xs j i ++ [intAt xs (0 + i * 1)] else llF c q xs j i
section
variable {c xs : List AV} {q d : Int} {i j k n m : Nat}
theorem ll_t (h:lgP c q (intAt xs (0 + i * 1)).toNat j):llF c q xs j (i + 1)=llF c q xs j i ++ [intAt xs (0 + i * 1)]:=by simp only [llF,lgB_true.2 h,if_true]
theorem ll_f (h:¬ lgP c q (intAt xs (0 + i * 1)).toNat j):llF c q xs j (i + 1)=llF c q xs j i:=by simp only [llF,lgB_no h,Bool.false_eq_true,if_false]
theorem ll_lenT (h:lgP c q (intAt xs (0 + i * 1)).toNat j) (hc:(llF c q xs j i).length=k):(llF c q xs j (i + 1)).length=k + 1:=by rw [ll_t h,List.length_append,hc]; rfl
theorem ll_lenF (h:¬ lgP c q (intAt xs (0 + i * 1)).toNat j) (hc:(llF c q xs j i).length=k):(llF c q xs j (i + 1)).length=k:=by rw [ll_f h,hc]
theorem ll_rowT (h:lgP c q (intAt xs (0 + i * 1)).toNat j):cI (llF c q xs j (i + 1))=cI (llF c q xs j i) ++ [.v (.int .i64 (intAt xs (0 + i * 1)))]:=by rw [ll_t h,← cI_app]; rfl
theorem ll_rowF (h:¬ lgP c q (intAt xs (0 + i * 1)).toNat j):cI (llF c q xs j (i + 1))=cI (llF c q xs j i):=by rw [ll_f h]
theorem ll_nil (h:(llF c q xs j i).length=0):cI (llF c q xs j i)=[]:=by rw [List.eq_nil_of_length_eq_zero h]; rfl
theorem ll_len:∀ i:Nat,(((llF c q xs j i).length:Nat):Int)=litF c q xs i j
 | 0=>rfl
 | i + 1=>by
  have ih:=ll_len i
  by_cases h:lgP c q (intAt xs (0 + i * 1)).toNat j
  ·rw [ll_t h,List.length_append,List.length_singleton,litF,if_pos h]; omega
  ·rw [ll_f h,litF,if_neg h]; omega
theorem ll_le:∀ i:Nat,(llF c q xs j i).length≤i:=fun i=>by
 have h1:=ll_len (c:=c) (q:=q) (xs:=xs) (j:=j) i
 have h2:=litF_bd (c:=c) (q:=q) (xs:=xs) i j
 omega
theorem ll_mono:∀ {i k:Nat},i≤k→(llF c q xs j i).length≤(llF c q xs j k).length
 | i,0,h=>by rw [show i=0 by omega]; exact Nat.le_refl _
 | i,k + 1,h=>by
  by_cases e:i=k + 1
  ·rw [e]; exact Nat.le_refl _
  ·have:=ll_mono (show i≤k by omega)
   simp only [llF]
   split
   ·rw [List.length_append,List.length_singleton]; omega
   ·exact this
def fstF (f:Nat→Bool):Nat→Nat
 | 0=>0
 | n + 1=>if fstF f n < n then fstF f n else if f n then n else n + 1
theorem fst_le (f:Nat→Bool):∀ n,fstF f n≤n
 | 0=>Nat.le_refl _
 | n + 1=>by
  have:=fst_le f n
  simp only [fstF]
  split
  ·omega
  ·split <;> omega
theorem fst_none {f:Nat→Bool}:∀ {n:Nat},(∀ k,k < n→f k=false)→fstF f n=n
 | 0,_=>rfl
 | n + 1,h=>by
  rw [fstF,fst_none (fun k hk=>h k (by omega)),if_neg (Nat.lt_irrefl _),h n (by omega)]
  rfl
theorem fst_at {f:Nat→Bool} {i:Nat} (h:∀ k,k < i→f k=false) (hi:f i=true):∀ {n:Nat},i < n→fstF f n=i
 | n + 1,hn=>by
  by_cases e:i=n
  ·subst e
   simp only [fstF,fst_none h,Nat.lt_irrefl,if_false,hi,if_true]
  ·have ih:=fst_at h hi (show i < n by omega)
   simp only [fstF,ih]
   rw [if_pos (by omega)]
theorem fst_lt {f:Nat→Bool}:∀ {n:Nat},fstF f n < n→f (fstF f n)=true∧∀ k,k < fstF f n→f k=false
 | n + 1,h=>by
  by_cases e:fstF f n < n
  ·have e2:fstF f (n + 1)=fstF f n:=by simp only [fstF,if_pos e]
   rw [e2]
   exact fst_lt e
  ·have e3:fstF f n=n:=by have:=fst_le f n; omega
   by_cases e4:f n=true
   ·have e2:fstF f (n + 1)=n:=by simp only [fstF,if_neg e,if_pos e4]
    rw [e2]
    refine ⟨e4,fun k hk=>?_⟩
    cases hf:f k with
    | false=>rfl
    | true =>
     -- the first one would come before
     have:∀ (m:Nat),m≤n→k < m→fstF f m < m:=by
      intro m
      induction m with
      | zero=>intro _ h; omega
      | succ m ih =>
       intro h1 h2
       by_cases e5:k=m
       ·subst e5
        simp only [fstF,hf,if_true]
        split <;> omega
       ·have h6:=ih (by omega) (by omega)
        simp only [fstF,if_pos h6]
        omega
     exact absurd (this n (Nat.le_refl _) hk) e
   ·have e2:fstF f (n + 1)=n + 1:=by simp only [fstF,if_neg e,if_neg e4]
    omega
def dkB (c:List AV) (q d:Int) (xs:List AV) (k j:Nat):Bool:=decide (litF c q xs k j≤d)
def drV (c:List AV) (q d:Int) (xs:List AV) (k n:Nat):Nat:=fstF (dkB c q d xs k) n
def drL (c:List AV) (q d:Int) (xs:List AV) (k n:Nat):List Int:=if drV c q d xs k n < n then llF c q xs (drV c q d xs k n) k else []
theorem dr_at (h:∀ j,j < i→d < litF c q xs k j) (hi:litF c q xs k i≤d) (hn:i < n):drV c q d xs k n=i∧drL c q d xs k n=llF c q xs i k:=by
 have e:drV c q d xs k n=i:=fst_at (f:=dkB c q d xs k) (fun j hj=>decide_eq_false (p:=litF c q xs k j≤d) (by have:=h j hj; omega)) (decide_eq_true (p:=litF c q xs k i≤d) hi) hn
 refine ⟨e,?_⟩
 unfold drL
 rw [e,if_pos hn]
theorem dark_step (h:∀ z,z < i→d < litF c q xs m z) (hj:j + 1≤m) (hl:d < (((llF c q xs i (j + 1)).length:Nat):Int)):∀ z,z < i + 1→d < litF c q xs m z:=fun z hz=>by
 by_cases e:z < i
 ·exact h z e
 ·obtain rfl:z=i:=by omega
  have h1:=ll_mono (c:=c) (q:=q) (xs:=xs) (j:=z) hj
  have h2:=ll_len (c:=c) (q:=q) (xs:=xs) (j:=z) m
  omega
theorem dr_none (h:∀ j,j < n→d < litF c q xs k j):drV c q d xs k n=n∧drL c q d xs k n=[]:=by
 have e:drV c q d xs k n=n:=fst_none (f:=dkB c q d xs k) (fun j hj=>decide_eq_false (p:=litF c q xs k j≤d) (by have:=h j hj; omega))
 refine ⟨e,?_⟩
 unfold drL
 rw [e,if_neg (Nat.lt_irrefl _)]
end
end
end Go.Proofs.Ytnphldmnakbknaa
