import Derived.Test.YtldekgkjofgacaaL0
set_option linter.all false
/- Lists as they lie: ranges, flags; what is so of all elements. -/
namespace Go.Proofs.Ytldekgkjofgacaa
open Go Ev
noncomputable section
def cR:List (Int×Int)→List AV
 | []=>[]
 | r :: l=>.v (.int .i64 r.1) :: .v (.int .i64 r.2) :: cR l
def cRv:List (Int×Int)→List Value
 | []=>[]
 | r :: l=>.int .i64 r.1 :: .int .i64 r.2 :: cRv l
theorem cR_plain:∀ L:List (Int×Int),plainL (cR L)=some (cRv L)
 | []=>rfl
 | r :: l=>by simp only [cR,plainL,plain,cR_plain l,cRv]
theorem cR_len:∀ L:List (Int×Int),(cR L).length=L.length * 2
 | []=>rfl
 | r :: l=>by simp only [cR,List.length_cons,cR_len l]; omega
theorem cR_at:∀ (L:List (Int×Int)) (i:Nat) (r:Int×Int),L[i]? = some r→(cR L)[i * 2]? = some (.v (.int .i64 r.1))∧(cR L)[i * 2 + 1]? = some (.v (.int .i64 r.2))
 | [],i,r,h=>by simp at h
 | x :: l,0,r,h=>by
  simp at h
  subst h
  exact ⟨rfl,rfl⟩
 | x :: l,i + 1,r,h=>by
  obtain ⟨h1,h2⟩:=cR_at l i r (by simpa using h)
  have e:(i + 1) * 2=i * 2 + 2:=by omega
  have e1:(i + 1) * 2 + 1=i * 2 + 1 + 2:=by omega
  exact ⟨by rw [e]; exact h1,by rw [e1]; exact h2⟩
theorem cR_int {L:List (Int×Int)} {i:Nat} {r:Int×Int} (h:L[i]? = some r):intAt (cR L) (i * 2)=r.1∧intAt (cR L) (i * 2 + 1)=r.2 :=
 ⟨intAt_of (cR_at L i r h).1,intAt_of (cR_at L i r h).2⟩
theorem cR_load {L:List (Int×Int)} {i:Nat} (hi:i < L.length) (t:TypeId) {d:TypeDesc} (hd:Try.prog.underlying t=some d) (ha:aggD d=true) {inf:TypeInfo} (hf:Try.prog.info? t=some inf) (h2:inf.size=2) :
  loadL Try.prog (cR L) (i * 2) t=some (.agg [.v (.int .i64 (intAt (cR L) (i * 2))),.v (.int .i64 (intAt (cR L) (i * 2 + 1)))]):=by
 obtain ⟨h3,h4⟩:=cR_at L i L[i] (List.getElem?_eq_getElem hi)
 obtain ⟨e1,e2⟩:=cR_int (List.getElem?_eq_getElem hi)
 rw [e1,e2]
 have hl:=cR_len L
 have hsub:sub (cR L) (i * 2) 2=some [.v (.int .i64 L[i].1),.v (.int .i64 L[i].2)]:=by
  unfold sub
  rw [Nat.ble_eq_true_of_le (by omega)]
  simp only [Option.some.injEq]
  apply List.ext_getElem?
  intro j
  rw [List.getElem?_take]
  match j with
  | 0=>simp only [List.getElem?_drop,Nat.add_zero,h3]; rfl
  | 1=>simp only [List.getElem?_drop,h4]; rfl
  | j + 2=>simp; omega
 simp only [loadL,hd,ha,hf,h2,hsub]
def cB:List Bool→List AV
 | []=>[]
 | b :: l=>.v (.bool b) :: cB l
def cBv:List Bool→List Value
 | []=>[]
 | b :: l=>.bool b :: cBv l
theorem cB_plain:∀ L:List Bool,plainL (cB L)=some (cBv L)
 | []=>rfl
 | n :: l=>by simp only [cB,plainL,plain,cB_plain l,cBv]
theorem cB_len:∀ L:List Bool,(cB L).length=L.length
 | []=>rfl
 | n :: l=>by simp only [cB,List.length_cons,cB_len l]
def allB (Q:Nat→Prop) (n:Nat):Bool:=@decide (∀ i,i < n→Q i) (Classical.propDecidable _)
theorem allB_true {Q:Nat→Prop} {n:Nat}:allB Q n=true↔∀ i,i < n→Q i:=by unfold allB; exact @decide_eq_true_iff _ (Classical.propDecidable _)
theorem allB_false {Q:Nat→Prop} {n:Nat} (h:allB Q n=false):¬ ∀ i,i < n→Q i:=fun k=>by rw [allB_true.2 k] at h; cases h
theorem allB_no {Q:Nat→Prop} {n i:Nat} (hi:i < n) (h:¬ Q i):allB Q n=false:=by
 cases e:allB Q n with
 | true=>exact absurd (allB_true.1 e i hi) h
 | false=>rfl
def bfI (c:List AV):Nat→Int
 | 0 => -1
 | i + 1=>intAt c (i * 1)
def angAt (c:List AV) (i:Nat):Prop:=bfI c i < intAt c (i * 1)∧intAt c (i * 1)≤90
def wgtAt (c:List AV) (i:Nat):Prop:=0≤intAt c (i * 1)∧intAt c (i * 1)≤1000
def rngAt (m:Int) (c:List AV) (i:Nat):Prop:=0≤intAt c (i * 2 + 0)∧intAt c (i * 2 + 0)≤intAt c (i * 2 + 1)∧intAt c (i * 2 + 1)≤m
abbrev lT:=@ltI_true
abbrev lF:=@ltI_false
end
end Go.Proofs.Ytldekgkjofgacaa
