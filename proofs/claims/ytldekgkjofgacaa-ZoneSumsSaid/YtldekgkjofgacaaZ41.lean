import Derived.Test.YtldekgkjofgacaaZ20
import Derived.Test.YtldekgkjofgacaaZ17
import Derived.Test.YtldekgkjofgacaaZ15
import Derived.Test.YtldekgkjofgacaaZ30
import Derived.Test.YtldekgkjofgacaaGs
set_option linter.all false
/- Oracles of the law ZoneDoubts; what it asks. -/
namespace Go.Proofs.Ytldekgkjofgacaa
open Go Ev
noncomputable section
def cdS:List AV→Option (Res1×List Prop):=fun vs =>
 match vs with
 | [.agg [.xl ya na k1 ca,.xl yl nl k2 cl,.xl yf nf k3 cf,.xl yw nw k4 cw],.v u,.v v]=>match numV u,numV v with
  | some a,some b=>some (.val (.v (.int .i64 (cdE ca na cl nl cf nf cw nw a b))),[IsLampK k1 k2 k3 k4 ca na cl nl cf nf cw nw])
  | _,_=>none
 | _=>none
def dbS:List AV→Option (Res1×List Prop):=fun vs =>
 match vs with
 | [.agg [.xl ya na k1 ca,.xl yl nl k2 cl,.xl yf nf k3 cf,.xl yw nw k4 cw]]=>some (.val (.tup [.v (.int .i64 (doI ca na cl nl cf nf cw nw)),.v (.int .i64 (doK ca na cl nl cf nf cw nw)),.v (.int .i64 (doE ca na cl nl cf nf cw nw))]),[IsLampK k1 k2 k3 k4 ca na cl nl cf nf cw nw])
 | _=>none
def dtS:List AV→Option (Res1×List Prop):=fun vs =>
 match vs with
 | [.agg [.xl ya na k1 ca,.xl yl nl k2 cl,.xl yf nf k3 cf,.xl yw nw k4 cw]]=>some (.val (.v (.bool (clB (dtd ca na cl cf nw)))),[IsLampK k1 k2 k3 k4 ca na cl nl cf nf cw nw,clE ca na cl nl nf cw nw=0])
 | _=>none
def dtO:OrcH:=extOrc 26 dtS
theorem known_dt:Known pg (clsO dtO):=known_ext (fun vs r ps h hp=>by
 unfold dtS at h
 split at h
 ·cases h
  obtain ⟨⟨rfl,rfl,rfl,rfl,A,L,B,W,rfl,rfl,rfl,rfl,rfl,rfl,rfl,rfl⟩,hz,-⟩:=hp
  refine ⟨extL_cons ext_lamp extL_nil,_,rfl,?_⟩
  obtain ⟨m,hm⟩:∃ m,W.length=m + 1:=⟨W.length - 1,by
   obtain ⟨hn,ha,he,hl,hw⟩:=clE_zero hz
   have:=deg_bd hn ha he 0 (by omega)
   omega⟩
  have q:=fun ya yl yf yw=>dt_g ya yl yf yw A L B W m hz hm
  simp only [← hm] at q
  exact q _ _ _ _
 ·cases h)
def zwO:OrcH:=plainOrc 16 (fun xs=>match xs with | []=>some (.v (.bool .true)) | _=>none)
section
variable {A L B W : List AV} {n nl nf nw : Nat}
end
def spokS:List AV→Option (Res1×List Prop):=fun vs =>
 match vs with
 | [.agg [.xl ya na k1 ca,.xl yl nl k2 cl,.xl yf nf k3 cf,.xl yw nw k4 cw]]=>some (.val (.tup [.agg [.v (.int .i64 (sumG cw (rdB ca na cl cf nw nw).1 nw)),.v (.int .i64 (sumG cw (rdB ca na cl cf nw nw).2 nw))],.v (.int .i64 0)]),[IsLampK k1 k2 k3 k4 ca na cl nl cf nf cw nw,clE ca na cl nl nf cw nw=0,fdAll cf cl na=none])
 | _=>none
def spokO:OrcH:=extOrc 27 spokS
theorem known_spok:Known pg (clsO spokO):=known_ext (fun vs r ps h hp=>by
 unfold spokS at h
 split at h
 ·cases h
  obtain ⟨⟨rfl,rfl,rfl,rfl,A,L,B,W,rfl,rfl,rfl,rfl,rfl,rfl,rfl,rfl⟩,hz,hf,-⟩:=hp
  refine ⟨extL_cons ext_lamp extL_nil,_,rfl,?_⟩
  have q:=fun ya yl yf yw=>spn_g ya yl yf yw A L B W hf
  simp only [spE_ok hz hf,spV_ok hz hf] at q
  exact q _ _ _ _
 ·cases h)
theorem fd_none {A L B W:List AV} {n nl nf nw:Nat} (hz:clE A n L nl nf W nw=0) (h:¬ dtd A n L B nw):fdAll B L n=none:=by
 have q:=clE_zero hz
 cases e:fdAll B L n with
 | none=>rfl
 | some p =>
  have d:=fdAll_of e
  exact absurd ((dtd_iff (B:=B) ⟨q.1,q.2.1,q.2.2.1,q.2.2.2.1⟩).2 ⟨p.2,d.2.1,p.1,d.1,d.2.2⟩) h
section
variable {A L : List AV} {B W X : List AV} {n nl nf nw nx : Nat}
theorem clE_len (h:clE A n L nl nf W nw=0) (h2:clE A n L nl nf X nx=0):nx=nw:=by
 have a:=(clE_zero h).2.2.1.2.2
 have b:=(clE_zero h2).2.2.1.2.2
 omega
theorem clE_new (h:clE A n L nl nf W nw=0) (hx:∀ i,i < nw→wgtAt X i):clE A n L nl nf X nw=0:=by
 obtain ⟨h1,h2,h3,h4,h5⟩:=clE_zero h
 exact clE_ok h1 h2 h3 h4 hx
def oneF (k:Nat):Nat→Int:=fun j=>if j=k then 1 else 0
theorem sum_one {k m:Nat} (f:Nat→Int):∀ n:Nat,n≤m→sumG (cI (tI (oneF k) m)) f n=if k < n then f k else 0
 | 0,_=>by rw [if_neg (by omega)]; rfl
 | n + 1,h=>by
  have ih:=sum_one (k:=k) (m:=m) f n (by omega)
  have e:intAt (cI (tI (oneF k) m)) (n * 1)=oneF k n:=by rw [Nat.mul_one]; exact tI_int (by omega)
  show sumG _ f n + _ * f n=_
  rw [ih,e]
  unfold oneF
  by_cases q:n=k
  ·subst q
   rw [if_neg (by omega),if_pos rfl,if_pos (by omega)]
   omega
  ·rw [if_neg q]
   by_cases q2:k < n
   ·rw [if_pos q2,if_pos (by omega)]; omega
   ·rw [if_neg q2,if_neg (by omega)]; omega
theorem sum_add {m:Nat} (c d:List AV) (f:Nat→Int):∀ n:Nat,n≤m→sumG (cI (tI (fun j=>intAt c (j * 1) + intAt d (j * 1)) m)) f n=sumG d f n + sumG c f n
 | 0,_=>rfl
 | n + 1,h=>by
  have ih:=sum_add (m:=m) c d f n (by omega)
  have e:intAt (cI (tI (fun j=>intAt c (j * 1) + intAt d (j * 1)) m)) (n * 1)=intAt c (n * 1) + intAt d (n * 1):=by
   have q:=tI_int (f:=fun j=>intAt c (j * 1) + intAt d (j * 1)) (show n < m by omega)
   rw [show n * 1=n from Nat.mul_one n] at q ⊢
   exact q
  show sumG _ f n + _ * f n=(sumG d f n + _ * f n) + (sumG c f n + _ * f n)
  rw [ih,e,Int.add_mul]
  omega
end
theorem cI_rep0:∀ n:Nat,repL n [AV.v (.int .i64 0)]=cI (tabL (fun _=>0) n)
 | 0=>rfl
 | n + 1=>by
  have e:∀ n:Nat,repL (n + 1) [AV.v (.int .i64 0)]=repL n [AV.v (.int .i64 0)] ++ [AV.v (.int .i64 0)]:=by
   intro n
   induction n with
   | zero=>rfl
   | succ n ih=>exact congrArg (AV.v (.int .i64 0) :: ·) ih
  rw [e n,cI_rep0 n,tabL,← cI_app]
  rfl
theorem one_hot {n k i:Nat} (h:k < n) (hi:i=k):splice (repL n [AV.v (.int .i64 0)]) i [.v (.int .i64 1)]=cI (tI (oneF k) n):=by
 subst hi
 rw [cI_rep0,← tI_eq]
 refine Eq.trans (tI_set (f:=fun _=>0) (x:=i) h 1) ?_
 rw [tI_ext (f:=updI (fun _=>0) i 1) (g:=oneF i) (fun j hj=>rfl)]
theorem one_wgt {n k:Nat}:∀ i,i < n→wgtAt (cI (tI (oneF k) n)) i:=fun i hi=>by
 unfold wgtAt
 rw [Nat.mul_one,tI_int hi]
 unfold oneF
 split <;> omega
theorem take_tJ {f:Nat→Int} {n:Nat}:List.take (n * 1) (List.drop 0 (cI (tI f n)))=cI (tI f n):=by
 rw [List.drop_zero,List.take_of_length_le (by rw [cI_len,tI_len]; omega)]
theorem hot_take {n k i:Nat} (h:k < n) (hi:i=k):List.take (n * 1) (List.drop 0 (splice (repL n [AV.v (.int .i64 0)]) i [.v (.int .i64 1)]))=cI (tI (oneF k) n):=by
 rw [one_hot h hi,take_tJ]
theorem hot_len {n k i:Nat} (h:k < n) (hi:i=k):0 + n * 1≤(splice (repL n [AV.v (.int .i64 0)]) i [.v (.int .i64 1)]).length:=by
 rw [one_hot h hi,cI_len,tI_len]; omega
theorem hot_clE {A L W:List AV} {n nl nf nw k i:Nat} (hz:clE A n L nl nf W nw=0) (h:k < nw) (hi:i=k):clE A n L nl nf (List.take (nw * 1) (List.drop 0 (splice (repL nw [AV.v (.int .i64 0)]) i [.v (.int .i64 1)]))) nw=0:=by
 rw [hot_take h hi]; exact clE_new hz one_wgt
theorem hot_eq {n:Nat} {f:Nat→Int} {a K:Int} (hk:0≤K∧K < (n:Int)):eqI (sumG (List.take (n * 1) (List.drop 0 (splice (repL n [AV.v (.int .i64 0)]) (0 + K.toNat * 1) [.v (.int .i64 1)]))) f n) (f (a + K - a).toNat)=true:=by
 rw [hot_take (k:=K.toNat) (by omega) (by omega),sum_one f n (Nat.le_refl _),if_pos (by omega),show (a + K - a).toNat=K.toNat by omega]
 exact eqI_self _
theorem sums_eq {A L B W X:List AV} {n nw nx m:Nat} (hm:nw=m + 1) (hx:nx=m + 1):eqI (sumG (List.take ((m + 1) * 1) (List.drop 0 (cI (tI (fun j=>intAt X (j * 1) + intAt W (j * 1)) (m + 1))))) (rdB A n L B (m + 1) (m + 1)).1 (m + 1)) (sumG W (rdB A n L B nw nw).1 nw + sumG X (rdB A n L B nx nx).1 nx)=true∧eqI (sumG (List.take ((m + 1) * 1) (List.drop 0 (cI (tI (fun j=>intAt X (j * 1) + intAt W (j * 1)) (m + 1))))) (rdB A n L B (m + 1) (m + 1)).2 (m + 1)) (sumG W (rdB A n L B nw nw).2 nw + sumG X (rdB A n L B nx nx).2 nx)=true:=by
 subst hm
 subst hx
 rw [take_tJ,sum_add X W _ _ (Nat.le_refl _),sum_add X W _ _ (Nat.le_refl _)]
 exact ⟨eqI_self _,eqI_self _⟩
theorem and2 {a b:Bool} (h:a=true) (k:b=true):(a && (b && true))=true:=by rw [h,k]; rfl
theorem absZ {b:Bool} {P:Prop} (h:b=false) (k:b=true):P:=by rw [k] at h; cases h
theorem kt_bd {t:Int} {n:Nat} (ht:0≤t∧t≤255) (hn:1≤n):0≤(IntKind.i64.wrap t).tmod n∧(IntKind.i64.wrap t).tmod n < ((n:Nat):Int):=by
 rw [show IntKind.i64.wrap t=t from IntWalk.i64_in t ⟨by omega,by omega⟩]
 exact ⟨Int.tmod_nonneg _ (by omega),Int.tmod_lt_of_pos _ (by omega)⟩
theorem dt_any (ya yl yf yw:Value) (A:List Int) (L:PR) (B:List Bool) (W:List Int) (hz:ZK A L B W):∃ x,plain (.v (.bool (clB (dtd (cI A) A.length (cR L) (cB B) W.length))))=some x∧GivesA pg 26 [.agg [.xl ya A.length 1 (cI A),.xl yl L.length 2 (cR L),.xl yf B.length 1 (cB B),.xl yw W.length 1 (cI W)]] x:=by
 obtain ⟨m,hm⟩:∃ m,W.length=m + 1:=⟨W.length - 1,by
  obtain ⟨hn,ha,he,hl,hw⟩:=clE_zero hz
  have:=deg_bd hn ha he 0 (by omega)
  omega⟩
 have q:=fun ya yl yf yw=>dt_g ya yl yf yw A L B W m hz hm
 simp only [← hm] at q
 exact ⟨_,rfl,q _ _ _ _⟩
theorem sp_any (ya yl yf yw:Value) (A:List Int) (L:PR) (B:List Bool) (W:List Int) (hz:ZK A L B W) (hf:fdAll (cB B) (cR L) A.length=none):∃ x,plain (.tup [.agg [.v (.int .i64 (sumG (cI W) (rdB (cI A) A.length (cR L) (cB B) W.length W.length).1 W.length)),.v (.int .i64 (sumG (cI W) (rdB (cI A) A.length (cR L) (cB B) W.length W.length).2 W.length))],.v (.int .i64 0)])=some x∧GivesA pg 27 [.agg [.xl ya A.length 1 (cI A),.xl yl L.length 2 (cR L),.xl yf B.length 1 (cB B),.xl yw W.length 1 (cI W)]] x:=by
 have q:=fun ya yl yf yw=>spn_g ya yl yf yw A L B W hf
 simp only [spE_ok hz hf,spV_ok hz hf] at q
 exact ⟨_,rfl,q _ _ _ _⟩
def atkS:List AV→Option (Res1×List Prop):=fun vs =>
 match vs with
 | [.agg [.xl ya na k1 ca,.xl yl nl k2 cl,.xl yf nf k3 cf,.xl yw nw k4 cw],.v u]=>match numV u with
  | some d=>some (.val (.tup [.agg [.v (.int .i64 ((rdB ca na cl cf nw nw).1 (d - intAt ca (0 * 1)).toNat)),.v (.int .i64 ((rdB ca na cl cf nw nw).2 (d - intAt ca (0 * 1)).toNat))],.v (.int .i64 0)]),[IsLampK k1 k2 k3 k4 ca na cl nl cf nf cw nw,clE ca na cl nl nf cw nw=0,fdAll cf cl na=none,intAt ca (0 * 1)≤d∧d≤intAt ca ((na - 1) * 1)])
  | none=>none
 | _=>none
def atkO:OrcH:=extOrc 29 atkS
theorem known_atk:Known pg (clsO atkO):=known_ext (fun vs r ps h hp=>by
 unfold atkS at h
 split at h
 ·split at h
  ·rename_i d e1
   cases h
   obtain ⟨⟨rfl,rfl,rfl,rfl,A,L,B,W,rfl,rfl,rfl,rfl,rfl,rfl,rfl,rfl⟩,hz,hf,hd,-⟩:=hp
   obtain rfl:=numV_eq e1
   refine ⟨extL_cons ext_lamp (extL_cons (ext_v _) extL_nil),_,rfl,?_⟩
   have hs:dgE (cI A) A.length d=0:=if_pos hd
   have w:=fun ya yl yf yw=>atn_g ya yl yf yw A L B W d hf
   simp only [hs,spE_ok hz hf,spV_ok hz hf] at w
   exact w _ _ _ _
  ·cases h
 ·cases h)
def wclS:List Xw→Option (Res1×List Prop):=fun vs =>
 match vs with
 | [.str l]=>match l with
  | [.ext a1,.ext a2,.ext a3,.lst nw k4 cw]=>match a1,a2,a3 with
   | .xl ya na k1 ca,.xl yl nl k2 cl,.xl yf nf k3 cf=>some (.val (.v (.int .i64 (clE ca na cl nl nf cw nw))),[IsLampK k1 k2 k3 k4 ca na cl nl cf nf cw nw])
   | _,_,_=>none
  | _=>none
 | _=>none
def wclO:OrcH:=exwOrc 20 [.str [0,0,0,1]] wclS
theorem known_wcl:Known pg (clsO wclO):=known_exw (fun vs r ps h hp=>by
 unfold wclS at h
 split at h
 ·split at h
  ·split at h
   ·rename_i ya na k1 ca yl nl k2 cl yf nf k3 cf
    cases h
    obtain ⟨⟨rfl,rfl,rfl,rfl,A,L,B,W,rfl,rfl,rfl,rfl,rfl,rfl,rfl,rfl⟩,-⟩:=hp
    refine ⟨⟨⟨ext_xl (extL_plain (cI_plain A)),ext_xl (extL_plain (cR_plain L)),ext_xl (extL_plain (cB_plain B)),⟨_,cI_plain W⟩,trivial⟩,trivial⟩,⟨[[undef,undef,undef,undef]],⟨rfl,trivial⟩⟩,fun ys hy=>?_⟩
    match ys,hy with
    | [[y1,y2,y3,y4]],_=>exact ⟨_,rfl,rc_g ya yl yf y4 A L B W⟩
   ·cases h
  ·cases h
 ·cases h)
def wdtS:List Xw→Option (Res1×List Prop):=fun vs =>
 match vs with
 | [.str l]=>match l with
  | [.ext a1,.ext a2,.ext a3,.lst nw k4 cw]=>match a1,a2,a3 with
   | .xl ya na k1 ca,.xl yl nl k2 cl,.xl yf nf k3 cf=>some (.val (.v (.bool (clB (dtd ca na cl cf nw)))),[IsLampK k1 k2 k3 k4 ca na cl nl cf nf cw nw,clE ca na cl nl nf cw nw=0])
   | _,_,_=>none
  | _=>none
 | _=>none
def wdtO:OrcH:=exwOrc 26 [.str [0,0,0,1]] wdtS
theorem known_wdt:Known pg (clsO wdtO):=known_exw (fun vs r ps h hp=>by
 unfold wdtS at h
 split at h
 ·split at h
  ·split at h
   ·rename_i ya na k1 ca yl nl k2 cl yf nf k3 cf
    cases h
    obtain ⟨⟨rfl,rfl,rfl,rfl,A,L,B,W,rfl,rfl,rfl,rfl,rfl,rfl,rfl,rfl⟩,hz,-⟩:=hp
    refine ⟨⟨⟨ext_xl (extL_plain (cI_plain A)),ext_xl (extL_plain (cR_plain L)),ext_xl (extL_plain (cB_plain B)),⟨_,cI_plain W⟩,trivial⟩,trivial⟩,⟨[[undef,undef,undef,undef]],⟨rfl,trivial⟩⟩,fun ys hy=>?_⟩
    match ys,hy with
    | [[y1,y2,y3,y4]],_=>exact (dt_any ya yl yf y4 A L B W hz)
   ·cases h
  ·cases h
 ·cases h)
def wspS:List Xw→Option (Res1×List Prop):=fun vs =>
 match vs with
 | [.str l]=>match l with
  | [.ext a1,.ext a2,.ext a3,.lst nw k4 cw]=>match a1,a2,a3 with
   | .xl ya na k1 ca,.xl yl nl k2 cl,.xl yf nf k3 cf=>some (.val (.tup [.agg [.v (.int .i64 (sumG cw (rdB ca na cl cf nw nw).1 nw)),.v (.int .i64 (sumG cw (rdB ca na cl cf nw nw).2 nw))],.v (.int .i64 0)]),[IsLampK k1 k2 k3 k4 ca na cl nl cf nf cw nw,clE ca na cl nl nf cw nw=0,fdAll cf cl na=none])
   | _,_,_=>none
  | _=>none
 | _=>none
def wspO:OrcH:=exwOrc 27 [.str [0,0,0,1]] wspS
theorem known_wsp:Known pg (clsO wspO):=known_exw (fun vs r ps h hp=>by
 unfold wspS at h
 split at h
 ·split at h
  ·split at h
   ·rename_i ya na k1 ca yl nl k2 cl yf nf k3 cf
    cases h
    obtain ⟨⟨rfl,rfl,rfl,rfl,A,L,B,W,rfl,rfl,rfl,rfl,rfl,rfl,rfl,rfl⟩,hz,hf,-⟩:=hp
    refine ⟨⟨⟨ext_xl (extL_plain (cI_plain A)),ext_xl (extL_plain (cR_plain L)),ext_xl (extL_plain (cB_plain B)),⟨_,cI_plain W⟩,trivial⟩,trivial⟩,⟨[[undef,undef,undef,undef]],⟨rfl,trivial⟩⟩,fun ys hy=>?_⟩
    match ys,hy with
    | [[y1,y2,y3,y4]],_=>exact (sp_any ya yl yf y4 A L B W hz hf)
   ·cases h
  ·cases h
 ·cases h)
def zsO:OrcH:=orO (orO (orO zwO rclO) (orO dtO spokO)) (orO (orO atkO wclO) (orO wdtO wspO))
theorem known_zs (hw:Known pg (clsO zwO)):Known pg (clsO zsO):=known_or (known_or (known_or hw known_rcl) (known_or known_dt known_spok)) (known_or (known_or known_atk known_wcl) (known_or known_wdt known_wsp))
end
end Go.Proofs.Ytldekgkjofgacaa
