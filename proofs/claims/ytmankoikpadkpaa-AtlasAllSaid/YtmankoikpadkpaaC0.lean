import Derived.Test.YtmankoikpadkpaaL6b
import Derived.Test.YtmankoikpadkpaaGp
set_option linter.all false
/- The cases in which something is seen: mathematics. -/
namespace Go.Proofs.Ytmankoikpadkpaa
open Go Ev
noncomputable section
def Ev.fam0 {α:Type} (a:α) (f:Nat→α):Nat→α
 | 0=>a
 | n + 1=>f n
def cR:List (Int×Int)→List AV
 | []=>[]
 | r :: l=>.v (.int .i64 r.1) :: .v (.int .i64 r.2) :: cR l
def cRv:List (Int×Int)→List Value
 | []=>[]
 | r :: l=>.int .i64 r.1 :: .int .i64 r.2 :: cRv l
theorem cR_plain:∀ L:List (Int×Int),plainL (cR L)=some (cRv L)
 | []=>rfl
 | r :: l=>by simp only [cR,plainL,plain,cR_plain l,cRv]
theorem cR_len:∀ L:List (Int×Int),(cR L).length=L.length * 2
 | []=>rfl
 | r :: l=>by simp only [cR,List.length_cons,cR_len l]; omega
theorem cR_app:∀ L M:List (Int×Int),cR L ++ cR M=cR (L ++ M)
 | [],M=>rfl
 | q :: l,M=>by simp only [cR,List.cons_append,cR_app l M]
def caseN:Nat→Int×Int
 | 0=>(0,0)
 | n + 1=>((n / 2:Nat),if n % 2=0 then -1 else 1)
theorem caseN_odd (j:Nat):caseN (1 + 2 * j)=(((j:Nat):Int),-1):=by
 rw [Nat.add_comm]
 simp only [caseN]
 rw [show 2 * j / 2=j by omega,if_pos (by omega)]
theorem caseN_even (j:Nat):caseN (1 + 2 * j + 1)=(((j:Nat):Int),1):=by
 simp only [caseN]
 rw [show (1 + 2 * j) / 2=j by omega,if_neg (by omega)]
def gotL (M:Int×Int→Bool):Nat→List (Int×Int)
 | 0=>[]
 | k + 1=>if M (caseN k) then gotL M k ++ [caseN k] else gotL M k
theorem got_t {M:Int×Int→Bool} {k:Nat} (h:M (caseN k)=true):gotL M (k + 1)=gotL M k ++ [caseN k]:=by simp only [gotL,h,if_true]
theorem got_f {M:Int×Int→Bool} {k:Nat} (h:M (caseN k)=false):gotL M (k + 1)=gotL M k:=by simp only [gotL,h,Bool.false_eq_true,if_false]
theorem got_le (M:Int×Int→Bool):∀ k,(gotL M k).length≤k
 | 0=>Nat.le_refl _
 | k + 1=>by
  have:=got_le M k
  simp only [gotL]
  split
  ·rw [List.length_append,List.length_singleton]; omega
  ·omega
theorem got_mono (M:Int×Int→Bool):∀ {k n:Nat},k≤n→(gotL M k).length≤(gotL M n).length
 | k,0,h=>by rw [show k=0 by omega]; exact Nat.le_refl _
 | k,n + 1,h=>by
  by_cases e:k=n + 1
  ·rw [e]; exact Nat.le_refl _
  ·have:=got_mono M (show k≤n by omega)
   simp only [gotL]
   split
   ·rw [List.length_append]; omega
   ·exact this
theorem got_2 {M:Int×Int→Bool} {j:Nat}:gotL M (1 + 2 * (j + 1))=gotL M (1 + 2 * j + 1 + 1):=by rw [show 1 + 2 * (j + 1)=1 + 2 * j + 1 + 1 by omega]
theorem got_len2 {M:Int×Int→Bool} {j k:Nat} {b1 b2:Bool} (h1:M (caseN (1 + 2 * j))=b1) (h2:M (caseN (1 + 2 * j + 1))=b2) (hc:(gotL M (1 + 2 * j)).length=k):(gotL M (1 + 2 * (j + 1))).length=k + b1.toNat + b2.toNat:=by
 rw [got_2]
 simp only [gotL,h1,h2]
 cases b1 <;> cases b2 <;> simp [hc]
def cP (q:Int×Int):List AV:=[.v (.int .i64 q.1),.v (.int .i64 q.2)]
theorem cR_one1 (l:List (Int×Int)) (q:Int×Int):cR (l ++ [q])=cR l ++ cP q:=(cR_app l [q]).symm
theorem got_tt {M:Int×Int→Bool} {j:Nat} (h1:M (caseN (1 + 2 * j))=true) (h2:M (caseN (1 + 2 * j + 1))=true):cR (gotL M (1 + 2 * (j + 1)))=(cR (gotL M (1 + 2 * j)) ++ cP (((j:Nat):Int),-1)) ++ cP (((j:Nat):Int),1):=by
 rw [got_2,got_t h2,got_t h1,cR_one1,cR_one1,caseN_odd,caseN_even]
theorem got_tf {M:Int×Int→Bool} {j:Nat} (h1:M (caseN (1 + 2 * j))=true) (h2:M (caseN (1 + 2 * j + 1))=false):cR (gotL M (1 + 2 * (j + 1)))=cR (gotL M (1 + 2 * j)) ++ cP (((j:Nat):Int),-1):=by
 rw [got_2,got_f h2,got_t h1,cR_one1,caseN_odd]
theorem got_ft {M:Int×Int→Bool} {j:Nat} (h1:M (caseN (1 + 2 * j))=false) (h2:M (caseN (1 + 2 * j + 1))=true):cR (gotL M (1 + 2 * (j + 1)))=cR (gotL M (1 + 2 * j)) ++ cP (((j:Nat):Int),1):=by
 rw [got_2,got_t h2,got_f h1,cR_one1,caseN_even]
theorem got_ff {M:Int×Int→Bool} {j:Nat} (h1:M (caseN (1 + 2 * j))=false) (h2:M (caseN (1 + 2 * j + 1))=false):cR (gotL M (1 + 2 * (j + 1)))=cR (gotL M (1 + 2 * j)):=by
 rw [got_2,got_f h2,got_f h1]
theorem got_nil {M:Int×Int→Bool} {k:Nat} (h:(gotL M k).length=0):cR (gotL M k)=[]:=by rw [List.eq_nil_of_length_eq_zero h]; rfl
theorem got_one {M:Int×Int→Bool} {b:Bool} (h:M (caseN 0)=b):(gotL M (1 + 2 * 0)).length=b.toNat:=by
 show (gotL M (0 + 1)).length=_
 simp only [gotL,h]
 cases b <;> rfl
theorem got_row1 {M:Int×Int→Bool} (h:M (caseN 0)=true):cR (gotL M (1 + 2 * 0))=cP (0,0):=by
 show cR (gotL M (0 + 1))=_
 rw [got_t h]
 rfl
def seeM (c:List AV) (m:Nat) (w:Nat→Int) (q:Int×Int):Bool:=eqI (sv c m q.1 q.2 0) (w 0) && (eqI (sv c m q.1 q.2 1) (w 1) && (eqI (sv c m q.1 q.2 2) (w 2) && (eqI (sv c m q.1 q.2 3) (w 3) && true)))
def padF (L:List Int) (j:Nat):Int:=L.getD j 0
def recM (c:List AV) (m:Nat) (L:List Int) (q:Int×Int):Bool:=decide (∀ j,j < m→rv c q.1 q.2 j=L.getD j 0)
theorem sv_big {c:List AV} {m:Nat} {a b:Int} {j:Nat} (h:m≤j) (hj:j < 4):sv c m a b j=0:=by
 unfold sv pgF
 rw [if_neg (by omega),Int.zero_mul]
theorem see_rec {c:List AV} {m:Nat} {L:List Int} (hm:m≤4) (hL:L.length=m) (q:Int×Int):seeM c m (padF L) q=recM c m L q:=by
 have e:∀ j,j < 4→eqI (sv c m q.1 q.2 j) (padF L j)=decide (j < m→rv c q.1 q.2 j=L.getD j 0):=fun j hj=>by
  rw [eqI_iff]
  unfold padF
  by_cases h:j < m
  ·rw [sv_rv h hm]
   exact decide_eq_decide.2 ⟨fun k _=>k,fun k=>k h⟩
  ·rw [sv_big (by omega) hj,List.getD_eq_getElem?_getD,List.getElem?_eq_none (by omega)]
   exact decide_eq_decide.2 ⟨fun _ k=>absurd k h,fun _=>rfl⟩
 unfold seeM recM
 rw [Bool.and_true,e 0 (by omega),e 1 (by omega),e 2 (by omega),e 3 (by omega),Bool.eq_iff_iff]
 simp only [Bool.and_eq_true,decide_eq_true_eq]
 constructor
 ·rintro ⟨h0,h1,h2,h3⟩ j hj
  match j,hj with
  | 0,hj=>exact h0 hj
  | 1,hj=>exact h1 hj
  | 2,hj=>exact h2 hj
  | 3,hj=>exact h3 hj
  | j + 4,hj=>omega
 ·intro h
  exact ⟨h 0,h 1,h 2,h 3⟩
end
end Go.Proofs.Ytmankoikpadkpaa
