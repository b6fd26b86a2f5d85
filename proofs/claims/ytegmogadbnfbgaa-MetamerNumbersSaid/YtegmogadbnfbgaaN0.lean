import Derived.Test.YtegmogadbnfbgaaF0
import Derived.Test.YtegmogadbnfbgaaGt
set_option linter.all false
/- Mathematics of cases: lists of ranges, and lists of such lists. -/
namespace Go.Proofs.Ytegmogadbnfbgaa
open Go Ev
noncomputable section
def cR:List (Int×Int)→List AV
 | []=>[]
 | r :: l=>.v (.int .i64 r.1) :: .v (.int .i64 r.2) :: cR l
def cRv:List (Int×Int)→List Value
 | []=>[]
 | r :: l=>.int .i64 r.1 :: .int .i64 r.2 :: cRv l
theorem cR_plain:∀ L:List (Int×Int),plainL (cR L)=some (cRv L)
 | []=>rfl
 | r :: l=>by simp only [cR,plainL,plain,cR_plain l,cRv]
theorem cR_len:∀ L:List (Int×Int),(cR L).length=L.length * 2
 | []=>rfl
 | r :: l=>by simp only [cR,List.length_cons,cR_len l]; omega
theorem cR_at:∀ (L:List (Int×Int)) (i:Nat) (r:Int×Int),L[i]? = some r→(cR L)[i * 2]? = some (.v (.int .i64 r.1))∧(cR L)[i * 2 + 1]? = some (.v (.int .i64 r.2))
 | [],i,r,h=>by simp at h
 | x :: l,0,r,h=>by
  simp at h
  subst h
  exact ⟨rfl,rfl⟩
 | x :: l,i + 1,r,h=>by
  obtain ⟨h1,h2⟩:=cR_at l i r (by simpa using h)
  have e:(i + 1) * 2=i * 2 + 2:=by omega
  have e1:(i + 1) * 2 + 1=i * 2 + 1 + 2:=by omega
  exact ⟨by rw [e]; exact h1,by rw [e1]; exact h2⟩
theorem cR_int {L:List (Int×Int)} {i:Nat} {r:Int×Int} (h:L[i]? = some r):intAt (cR L) (i * 2)=r.1∧intAt (cR L) (i * 2 + 1)=r.2 :=
 ⟨intAt_of (cR_at L i r h).1,intAt_of (cR_at L i r h).2⟩
theorem cR_load {L:List (Int×Int)} {i:Nat} (hi:i < L.length) (t:TypeId) {d:TypeDesc} (hd:Try.prog.underlying t=some d) (ha:aggD d=true) {inf:TypeInfo} (hf:Try.prog.info? t=some inf) (h2:inf.size=2) :
  loadL Try.prog (cR L) (i * 2) t=some (.agg [.v (.int .i64 (intAt (cR L) (i * 2))),.v (.int .i64 (intAt (cR L) (i * 2 + 1)))]):=by
 obtain ⟨h3,h4⟩:=cR_at L i L[i] (List.getElem?_eq_getElem hi)
 obtain ⟨e1,e2⟩:=cR_int (List.getElem?_eq_getElem hi)
 rw [e1,e2]
 have hl:=cR_len L
 have hsub:sub (cR L) (i * 2) 2=some [.v (.int .i64 L[i].1),.v (.int .i64 L[i].2)]:=by
  unfold sub
  rw [Nat.ble_eq_true_of_le (by omega)]
  simp only [Option.some.injEq]
  apply List.ext_getElem?
  intro j
  rw [List.getElem?_take]
  match j with
  | 0=>simp only [List.getElem?_drop,Nat.add_zero,h3]; rfl
  | 1=>simp only [List.getElem?_drop,h4]; rfl
  | j + 2=>simp; omega
 simp only [loadL,hd,ha,hf,h2,hsub]
def allB (Q:Nat→Prop) (n:Nat):Bool:=@decide (∀ i,i < n→Q i) (Classical.propDecidable _)
theorem allB_true {Q:Nat→Prop} {n:Nat}:allB Q n=true↔∀ i,i < n→Q i:=by unfold allB; exact @decide_eq_true_iff _ (Classical.propDecidable _)
theorem allB_no {Q:Nat→Prop} {n i:Nat} (hi:i < n) (h:¬ Q i):allB Q n=false:=by
 cases e:allB Q n with
 | true=>exact absurd (allB_true.1 e i hi) h
 | false=>rfl
theorem cR_ld {L:List (Int×Int)} {i j:Nat} (hi:i < L.length) (hj:j=i * 2∨j=i * 2 + 1) (t:TypeId) {d:TypeDesc} (hd:Try.prog.underlying t=some d) (ha:aggD d=false):loadL Try.prog (cR L) j t=some (.v (.int .i64 (intAt (cR L) j))):=by
 obtain ⟨h3,h4⟩:=cR_at L i L[i] (List.getElem?_eq_getElem hi)
 obtain ⟨e1,e2⟩:=cR_int (List.getElem?_eq_getElem hi)
 rcases hj with rfl | rfl
 ·simp only [loadL,hd,ha,getL_eq,h3,e1]
 ·simp only [loadL,hd,ha,getL_eq,h4,e2]
def cQw:List (Value×List (Int×Int))→List AV
 | []=>[]
 | r :: l=>.xl r.1 r.2.length 2 (cR r.2) :: cQw l
theorem cQw_len:∀ R:List (Value×List (Int×Int)),(cQw R).length=R.length
 | []=>rfl
 | r :: l=>by simp only [cQw,List.length_cons,cQw_len l]
theorem cQw_at:∀ (R:List (Value×List (Int×Int))) (i:Nat) (h:i < R.length),(cQw R)[i]? = some (.xl (R[i]).1 (R[i]).2.length 2 (cR (R[i]).2))
 | [],i,h=>by simp at h
 | x :: l,0,h=>rfl
 | x :: l,i + 1,h=>cQw_at l i (by simpa using h)
theorem cQw_load {R:List (Value×List (Int×Int))} {i:Nat} (h:i < R.length) (t:TypeId) {d:TypeDesc} (hd:Try.prog.underlying t=some d) (ha:aggD d=false):loadL Try.prog (cQw R) i t=some (.xl (xlY (cQw R) i) (xlN (cQw R) i) 2 (xlC (cQw R) i)):=by
 simp only [loadL,hd,ha,getL_eq,cQw_at R i h]
 unfold xlY xlN xlC
 rw [cQw_at R i h]
def IsPr (k n:Nat) (c:List AV):Prop:=k=2∧∃ P:List (Int×Int),c=cR P∧n=P.length
theorem cQw_isP {R:List (Value×List (Int×Int))} {i:Nat} (h:i < R.length):IsPr 2 (xlN (cQw R) (i * 1)) (xlC (cQw R) (i * 1)):=by
 rw [Nat.mul_one]
 refine ⟨rfl,(R[i]).2,?_,?_⟩
 ·unfold xlC; rw [cQw_at R i h]
 ·unfold xlN; rw [cQw_at R i h]
theorem freeL_plainQ:∀ R:List (Value×List (Int×Int)),FreeL (cQw R)
 | []=>freeL_nil
 | r :: l=>freeL_cons (freeL_xl (freeL_plain (cR_plain _))) (freeL_plainQ l)
theorem extL_rowsQ:∀ R:List (Value×List (Int×Int)),ExtL (cQw R)
 | []=>extL_nil
 | r :: l=>extL_cons (ext_xl (extL_plain (cR_plain _))) (extL_rowsQ l)
theorem ext_case {y yl:Value} (E:List (Value×List (Int×Int))) (L:List (Int×Int)):Ext (.agg [.xl y E.length 1 (cQw E),.xl yl L.length 2 (cR L)]):=ext_agg (extL_cons (ext_xl (extL_rowsQ E)) (extL_cons (ext_xl (extL_plain (cR_plain L))) extL_nil))
def rngAt (m:Int) (c:List AV) (i:Nat):Prop:=0≤intAt c (i * 2 + 0)∧intAt c (i * 2 + 0)≤intAt c (i * 2 + 1)∧intAt c (i * 2 + 1)≤m
def lenB (c:List AV) (m n:Nat):Bool:=allB (fun i=>xlN c (i * 1)=n) m
def eyB (c:List AV) (m n:Nat):Bool:=lenB c m n && eqI m 3
theorem eyB_no {c:List AV} {m n i:Nat} (hi:i < m) (h:¬ xlN c (i * 1)=n):eyB c m n=false:=by unfold eyB lenB; rw [allB_no hi h]; rfl
theorem eyB_all {c:List AV} {m n:Nat} (h:∀ i,i < m→xlN c (i * 1)=n):eyB c m n=eqI m 3:=by unfold eyB lenB; rw [allB_true.2 h]; rfl
theorem eyB_true {c:List AV} {m n:Nat}:eyB c m n=true↔m=3∧∀ i,i < m→xlN c (i * 1)=n:=by
 unfold eyB lenB
 rw [Bool.and_eq_true,allB_true,eqI_iff,decide_eq_true_eq]
 constructor
 ·intro ⟨h1,h2⟩; exact ⟨by omega,h1⟩
 ·intro ⟨h1,h2⟩; exact ⟨h2,by omega⟩
open Classical in
def ccE (cE:List AV) (m:Nat) (cL:List AV) (n:Nat):Int :=
 if 1≤n∧n≤8 then (if eyB cE m n=true then (if allB (rngAt 100 cL) n=true∧∀ i,i < m→allB (rngAt 100 (xlC cE (i * 1))) n=true then 0 else 2) else 15) else 6
section
variable {cE cL : List AV} {m n i : Nat}
theorem ccE_many (h:¬ (1≤n∧n≤8)):ccE cE m cL n=6:=if_neg h
theorem ccE_eye (h:1≤n∧n≤8) (h2:¬ eyB cE m n=true):ccE cE m cL n=15:=by unfold ccE; rw [if_pos h,if_neg h2]
theorem ccE_lamp (h:1≤n∧n≤8) (h2:eyB cE m n=true) (h3:¬ allB (rngAt 100 cL) n=true):ccE cE m cL n=2:=by unfold ccE; rw [if_pos h,if_pos h2,if_neg (fun k=>h3 k.1)]
theorem ccE_curve (h:1≤n∧n≤8) (h2:eyB cE m n=true) (hi:i < m) (h3:¬ allB (rngAt 100 (xlC cE (i * 1))) n=true):ccE cE m cL n=2:=by unfold ccE; rw [if_pos h,if_pos h2,if_neg (fun k=>h3 (k.2 i hi))]
theorem ccE_ok (h:1≤n∧n≤8) (h2:eyB cE m n=true) (h3:allB (rngAt 100 cL) n=true) (h4:∀ i,i < m→allB (rngAt 100 (xlC cE (i * 1))) n=true):ccE cE m cL n=0:=by unfold ccE; rw [if_pos h,if_pos h2,if_pos ⟨h3,h4⟩]
theorem ccE_zero (h:ccE cE m cL n=0):(1≤n∧n≤8)∧m=3∧(∀ i,i < 3→xlN cE (i * 1)=n)∧(∀ b,b < n→rngAt 100 cL b)∧∀ i,i < 3→∀ b,b < n→rngAt 100 (xlC cE (i * 1)) b:=by
 unfold ccE at h
 split at h
 ·split at h
  ·split at h
   ·rename_i h1 h2 h3
    obtain ⟨rfl,h4⟩:=eyB_true.1 h2
    exact ⟨h1,rfl,h4,allB_true.1 h3.1,fun i hi=>allB_true.1 (h3.2 i hi)⟩
   ·omega
  ·omega
 ·omega
end
def chE (n:Nat) (d:List AV) (k:Nat):Int:=if k=n then (if afB 0 1000 d k=true then 0 else 2) else 15
theorem chE_len {n k:Nat} {d:List AV} (h:¬ k=n):chE n d k=15:=if_neg h
theorem chE_bad {n k:Nat} {d:List AV} (h:k=n) (h2:¬ afB 0 1000 d k=true):chE n d k=2:=by unfold chE; rw [if_pos h,if_neg h2]
theorem chE_ok {n k:Nat} {d:List AV} (h:k=n) (h2:afB 0 1000 d k=true):chE n d k=0:=by unfold chE; rw [if_pos h,if_pos h2]
theorem chE_zero {n k:Nat} {d:List AV} (h:chE n d k=0):k=n∧afB 0 1000 d k=true:=by
 unfold chE at h
 split at h
 ·split at h
  ·exact ⟨‹_›,‹_›⟩
  ·omega
 ·omega
def wiAt (r d:List AV) (b:Nat):Prop:=intAt r (b * 2 + 0)≤intAt d (b * 1)∧intAt d (b * 1)≤intAt r (b * 2 + 1)
open Classical in
def ctE (cE cL:List AV) (n:Nat) (cX:List AV) (m:Nat) (cY:List AV) (k:Nat):Int :=
 if k=n∧eyB cX m n=true then (if allB (wiAt cL cY) n=true∧∀ i,i < 3→allB (wiAt (xlC cE (i * 1)) (xlC cX (i * 1))) n=true then 0 else 3) else 15
section
variable {cE cL cX cY : List AV} {m n k i : Nat}
theorem ctE_len (h:¬ (k=n∧eyB cX m n=true)):ctE cE cL n cX m cY k=15:=if_neg h
theorem ctE_lamp (h:k=n) (h2:eyB cX m n=true) (h3:¬ allB (wiAt cL cY) n=true):ctE cE cL n cX m cY k=3:=by unfold ctE; rw [if_pos ⟨h,h2⟩,if_neg (fun q=>h3 q.1)]
theorem ctE_curve (h:k=n) (h2:eyB cX m n=true) (hi:i < 3) (h3:¬ allB (wiAt (xlC cE (i * 1)) (xlC cX (i * 1))) n=true):ctE cE cL n cX m cY k=3:=by unfold ctE; rw [if_pos ⟨h,h2⟩,if_neg (fun q=>h3 (q.2 i hi))]
theorem ctE_ok (h:k=n) (h2:eyB cX m n=true) (h3:allB (wiAt cL cY) n=true) (h4:∀ i,i < 3→allB (wiAt (xlC cE (i * 1)) (xlC cX (i * 1))) n=true):ctE cE cL n cX m cY k=0:=by unfold ctE; rw [if_pos ⟨h,h2⟩,if_pos ⟨h3,h4⟩]
theorem ctE_zero (h:ctE cE cL n cX m cY k=0):k=n∧m=3∧(∀ i,i < 3→xlN cX (i * 1)=n)∧(∀ b,b < n→wiAt cL cY b)∧∀ i,i < 3→∀ b,b < n→wiAt (xlC cE (i * 1)) (xlC cX (i * 1)) b:=by
 unfold ctE at h
 split at h
 ·split at h
  ·rename_i h1 h3
   obtain ⟨rfl,h4⟩:=eyB_true.1 h1.2
   exact ⟨h1.1,rfl,h4,allB_true.1 h3.1,fun i hi=>allB_true.1 (h3.2 i hi)⟩
  ·omega
 ·omega
end
end
end Go.Proofs.Ytegmogadbnfbgaa
