import Derived.Test.YtegmogadbnfbgaaM8
set_option linter.all false
/- Lists of numbers and lists of such lists, as they lie. -/
namespace Go.Proofs.Ytegmogadbnfbgaa
open Go Ev
noncomputable section
theorem ltI_true {a b:Int} (h:ltI a b=true):a < b:=by rw [ltI_iff] at h; exact of_decide_eq_true h
theorem ltI_false {a b:Int} (h:ltI a b=false):b≤a:=by rw [ltI_iff] at h; have:=of_decide_eq_false h; omega
theorem eqI_true {a b:Int} (h:eqI a b=true):a=b:=by rw [eqI_iff] at h; exact of_decide_eq_true h
theorem eqI_false {a b:Int} (h:eqI a b=false):¬ a=b:=by rw [eqI_iff] at h; exact of_decide_eq_false h
theorem intAt_of {c:List AV} {i:Nat} {k:IntKind} {n:Int} (h:c[i]? = some (.v (.int k n))):intAt c i=n:=by unfold intAt; rw [h]
def cI:List Int→List AV
 | []=>[]
 | n :: l=>.v (.int .i64 n) :: cI l
def cIv:List Int→List Value
 | []=>[]
 | n :: l=>.int .i64 n :: cIv l
theorem cI_plain:∀ L:List Int,plainL (cI L)=some (cIv L)
 | []=>rfl
 | n :: l=>by simp only [cI,plainL,plain,cI_plain l,cIv]
theorem cI_len:∀ L:List Int,(cI L).length=L.length
 | []=>rfl
 | n :: l=>by simp only [cI,List.length_cons,cI_len l]
theorem cI_at:∀ (L:List Int) (i:Nat) (h:i < L.length),(cI L)[i]? = some (.v (.int .i64 (L[i])))
 | [],i,h=>by simp at h
 | x :: l,0,h=>rfl
 | x :: l,i + 1,h=>cI_at l i (by simpa using h)
theorem cI_int {L:List Int} {i:Nat} (h:i < L.length):intAt (cI L) i=L[i]:=intAt_of (cI_at L i h)
theorem cI_load {L:List Int} {i:Nat} (h:i < L.length) (t:TypeId) {d:TypeDesc} (hd:Try.prog.underlying t=some d) (ha:aggD d=false):loadL Try.prog (cI L) i t=some (.v (.int .i64 (intAt (cI L) i))):=by
 simp only [loadL,hd,ha,getL_eq,cI_at L i h,cI_int h]
theorem cI_map:∀ L:List Int,cI L=L.map (fun n=>.v (.int .i64 n))
 | []=>rfl
 | n :: l=>by simp only [cI,List.map_cons,cI_map l]
theorem cI_app (L M:List Int):cI L ++ cI M=cI (L ++ M):=by rw [cI_map,cI_map,cI_map,List.map_append]
def IsI (k n:Nat) (c:List AV):Prop:=k=1∧∃ L,c=cI L∧n=L.length
def cRw:List (Value×List Int)→List AV
 | []=>[]
 | r :: l=>.xl r.1 r.2.length 1 (cI r.2) :: cRw l
theorem cRw_at:∀ (R:List (Value×List Int)) (i:Nat) (h:i < R.length),(cRw R)[i]? = some (.xl (R[i]).1 (R[i]).2.length 1 (cI (R[i]).2))
 | [],i,h=>by simp at h
 | x :: l,0,h=>rfl
 | x :: l,i + 1,h=>cRw_at l i (by simpa using h)
def rwL (R:List (Value×List Int)) (i:Nat):List Int:=match R[i]? with | some r=>r.2 | none=>[]
theorem cRw_n {R:List (Value×List Int)} {i:Nat} (h:i < R.length):xlN (cRw R) i=(rwL R i).length:=by
 unfold xlN rwL
 rw [cRw_at R i h,List.getElem?_eq_getElem h]
theorem cRw_c {R:List (Value×List Int)} {i:Nat} (h:i < R.length):xlC (cRw R) i=cI (rwL R i):=by
 unfold xlC rwL
 rw [cRw_at R i h,List.getElem?_eq_getElem h]
theorem cRw_load {R:List (Value×List Int)} {i:Nat} (h:i < R.length) (t:TypeId) {d:TypeDesc} (hd:Try.prog.underlying t=some d) (ha:aggD d=false):loadL Try.prog (cRw R) i t=some (.xl (xlY (cRw R) i) (xlN (cRw R) i) 1 (xlC (cRw R) i)):=by
 simp only [loadL,hd,ha,getL_eq,cRw_at R i h]
 unfold xlY xlN xlC
 rw [cRw_at R i h]
def tabL (f:Nat→Int):Nat→List Int
 | 0=>[]
 | n + 1=>tabL f n ++ [f n]
theorem tabL_len (f:Nat→Int):∀ n:Nat,(tabL f n).length=n
 | 0=>rfl
 | n + 1=>by simp [tabL,tabL_len f n]
theorem tabL_at (f:Nat→Int):∀ (n i:Nat),i < n→(tabL f n)[i]? = some (f i)
 | 0,i,h=>by omega
 | n + 1,i,h=>by
  simp only [tabL]
  by_cases e:i < n
  ·rw [List.getElem?_append_left (by rw [tabL_len]; exact e)]
   exact tabL_at f n i e
  ·have:i=n:=by omega
   subst this
   rw [List.getElem?_append_right (by rw [tabL_len]; omega),tabL_len]
   simp
theorem up_next {q:Nat→Prop} {i:Nat} (h:∀ j,j < i→q j) (k:q i):∀ j,j < i + 1→q j:=fun j hj=>by
 by_cases e:j < i
 ·exact h j e
 ·rw [show j=i by omega]; exact k
def numV (v:Value):Option Int:=match v with
 | .int k n=>match k with
  | .i64=>some n
  | _=>none
 | _=>none
theorem numV_eq {v:Value} {n:Int} (h:numV v=some n):v = .int .i64 n:=by
 unfold numV at h
 split at h
 ·split at h
  ·cases h; rfl
  ·cases h
 ·cases h
end
end Go.Proofs.Ytegmogadbnfbgaa
