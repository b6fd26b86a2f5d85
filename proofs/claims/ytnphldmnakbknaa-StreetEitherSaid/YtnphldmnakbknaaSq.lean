import Derived.Test.YtnphldmnakbknaaS7
import Derived.Test.YtnphldmnakbknaaS8
set_option linter.all false
/- What is known of newRoad and choice. -/
namespace Go.Proofs.Ytnphldmnakbknaa
open Go Ev
noncomputable section
theorem iRSq {a:Int} (h : -9223372036854775808≤a) (k:a≤9223372036854775807):inR .i64 a:=⟨h,k⟩
def stnd (l:List AV) (k:Nat):Bool:=boolAt l (4 + k)
abbrev stM (n d q:Int) (y:Value) (P:PL) (st:Nat→Bool):Nat→Bool:=stnd (rdT [.v (.int .i64 n),.v (.int .i64 d),.v (.int .i64 q),.xl y P.length 3 (cT P)] st)
theorem stM_at {n d q:Int} {y:Value} {P:PL} {st:Nat→Bool} {k:Nat} (hk:k < 24):stM n d q y P st k=st k:=rdT_bool rfl rfl hk
theorem flt_ext {st st':Nat→Bool}:∀ {m:Nat},(∀ k,k < m→st k=st' k)→flt st m=flt st' m
 | 0,_=>rfl
 | m + 1,h=>by rw [flt,flt,flt_ext (st:=st) (st':=st') (m:=m) (fun k hk=>h k (by omega)),h m (by omega)]
theorem flt_M {n d q:Int} {y:Value} {P:PL} {st:Nat→Bool} {m:Nat} (hm:m≤24):flt (stM n d q y P st) m=flt st m:=flt_ext (fun k hk=>stM_at (by omega))
def rdV (l:List AV):Option (Int×Int×Int×Value×Nat×List AV) :=
 match l with
 | .v v1 :: .v v2 :: .v v3 :: .xl y m 3 c :: _=>match numV v1,numV v2,numV v3 with
  | some n,some d,some q=>some (n,d,q,y,m,c)
  | _,_,_=>none
 | _=>none
def IsRd (l:List AV):Prop:=∃ n d q y P st,l=rdT [.v (.int .i64 n),.v (.int .i64 d),.v (.int .i64 q),.xl y (List.length P) 3 (cT P)] st
theorem rdV_eq {n d q n' d' q':Int} {y y':Value} {P:PL} {st:Nat→Bool} {m:Nat} {c:List AV} (h:rdV (rdT [.v (.int .i64 n),.v (.int .i64 d),.v (.int .i64 q),.xl y P.length 3 (cT P)] st)=some (n',d',q',y',m,c)):n'=n∧d'=d∧q'=q∧y'=y∧m=P.length∧c=cT P:=by
 have e:rdV (rdT [.v (.int .i64 n),.v (.int .i64 d),.v (.int .i64 q),.xl y P.length 3 (cT P)] st)=some (n,d,q,y,P.length,cT P):=rfl
 rw [e] at h
 cases h
 exact ⟨rfl,rfl,rfl,rfl,rfl,rfl⟩
def nrS:List AV→List AB→Option ((AV×List AB)×List Prop):=fun args xs =>
 match args with
 | [a,.xl z k j e]=>match roadV a,xs with
  | some (n,d,q,y,m,c),[]=>some ((.agg (rdT [.v (.int .i64 n),.v (.int .i64 d),.v (.int .i64 q),.xl y m 3 c] (stC e k)),[]),[IsT m c,IsC j k e,m≤24,k≤1000,chB e k m=true])
  | _,_=>none
 | _=>none
def nrO:OrcH:=mOrc 41 nrS
theorem known_nr:Known pg (clsO nrO):=known_m (fun args xs r ys ps h hp=>by
 unfold nrS at h
 split at h
 ·split at h
  ·rename_i n d q y m c e
   cases h
   obtain ⟨⟨P,rfl,rfl⟩,⟨rfl,C,rfl,rfl⟩,hm,hk,hc,-⟩:=hp
   rw [roadV_eq e]
   exact ⟨fun x hx=>absurd hx List.not_mem_nil,fun x hx=>absurd hx List.not_mem_nil,newroad_g n d q y P _ C hm hk (chB_true.1 hc)⟩
  ·cases h
 ·cases h)
def chSa:List AV→List AB→Option ((AV×List AB)×List Prop):=fun args xs =>
 match args with
 | [.agg l]=>match rdV l,xs with
  | some (n,d,q,y,m,c),[]=>some ((.v (.slice none 0 0),[]),[IsRd l,m≤24,(flt (stnd l) m).length=0])
  | _,_=>none
 | _=>none
def chOa:OrcH:=mOrc 55 chSa
theorem known_cha:Known pg (clsO chOa):=known_m (fun args xs r ys ps h hp=>by
 unfold chSa at h
 split at h
 ·split at h
  ·rename_i n d q y m c e
   cases h
   obtain ⟨⟨n,d,q,y,P,st,rfl⟩,hm,h0,-⟩:=hp
   obtain ⟨rfl,rfl,rfl,rfl,rfl,rfl⟩:=rdV_eq e
   have h1:(flt st P.length).length=0:=by rw [← flt_M (n:=n) (d:=d) (q:=q) (y:=y) (P:=P) hm]; exact h0
   exact ⟨fun x hx=>absurd hx List.not_mem_nil,fun x hx=>absurd hx List.not_mem_nil,choice_a _ _ _ _ P st hm h1⟩
  ·cases h
 ·cases h)
def chSb:List AV→List AB→Option ((AV×List AB)×List Prop):=fun args xs =>
 match args with
 | [.agg l]=>match rdV l,xs with
  | some (n,d,q,y,m,c),[]=>some ((.slu 0 0 (flt (stnd l) m).length 0,[.row (cI (flt (stnd l) m)) 3 1]),[IsRd l,m≤24,0 < (flt (stnd l) m).length])
  | _,_=>none
 | _=>none
def chOb:OrcH:=mOrc 55 chSb
theorem known_chb:Known pg (clsO chOb):=known_m (fun args xs r ys ps h hp=>by
 unfold chSb at h
 split at h
 ·split at h
  ·rename_i n d q y m c e
   cases h
   obtain ⟨⟨n,d,q,y,P,st,rfl⟩,hm,h0,-⟩:=hp
   obtain ⟨rfl,rfl,rfl,rfl,rfl,rfl⟩:=rdV_eq e
   have e1:flt (stnd (rdT [.v (.int .i64 n),.v (.int .i64 d),.v (.int .i64 q),.xl y P.length 3 (cT P)] st)) P.length=flt st P.length:=flt_M hm
   rw [e1] at h0 ⊢
   refine ⟨fun x hx=>absurd hx List.not_mem_nil,fun x hx=>?_,choice_b _ _ _ _ P st hm h0⟩
   rcases List.mem_cons.1 hx with rfl | hx
   ·exact freeB_row (fP (cI_plain _))
   ·exact absurd hx List.not_mem_nil
  ·cases h
 ·cases h)
def poF (c:List AV) (q:Int) (x:Nat):Int:=if intAt c (x * 3 + 0) + q ≥ intAt c (x * 3 + 1) - q + 1 then 0 else intAt c (x * 3 + 0) + q
def poE (c:List AV) (q:Int) (x:Nat):Int:=if intAt c (x * 3 + 0) + q ≥ intAt c (x * 3 + 1) - q + 1 then 0 else intAt c (x * 3 + 1) - q + 1
def poN (c:List AV) (q:Int) (x:Nat):Int:=if intAt c (x * 3 + 0) + q ≥ intAt c (x * 3 + 1) - q + 1 then 0 else x
def poC (c:List AV) (q:Int) (x:Nat):Int:=if intAt c (x * 3 + 0) + q ≥ intAt c (x * 3 + 1) - q + 1 then 0 else intAt c (x * 3 + 2)
def lgP (c:List AV) (q:Int) (x:Nat) (j:Nat):Prop:=poF c q x≤j∧(j:Int) < poE c q x
instance (c:List AV) (q:Int) (x j:Nat):Decidable (lgP c q x j):=by unfold lgP; infer_instance
def litF (c:List AV) (q:Int) (xs:List AV):Nat→Nat→Int
 | 0,_=>0
 | i + 1,j=>litF c q xs i j + (if lgP c q (intAt xs (0 + i * 1)).toNat j then 1 else 0)
def litG (c:List AV) (q:Int) (xs:List AV) (i p:Nat) (j:Nat):Int:=litF c q xs i j + (if j < p∧lgP c q (intAt xs (0 + i * 1)).toNat j then 1 else 0)
theorem tab_ext {f g:Nat→Int}:∀ {n:Nat},(∀ j,j < n→f j=g j)→tabL f n=tabL g n
 | 0,_=>rfl
 | n + 1,h=>by rw [tabL,tabL,tab_ext (f:=f) (g:=g) (n:=n) (fun j hj=>h j (by omega)),h n (by omega)]
theorem tab_int0 (f:Nat→Int) {n k:Nat} (h:k < n):intAt (cI (tabL f n)) k=f k:=by
 rw [cI_int (by rw [tabL_len]; exact h)]
 have h1:=tabL_at f n k h
 rw [List.getElem?_eq_getElem (by rw [tabL_len]; exact h)] at h1
 exact Option.some.inj h1
theorem tab_get (f:Nat→Int) (n k:Nat):(cI (tabL f n))[k]? = if k < n then some (.v (.int .i64 (f k))) else none:=by
 by_cases h:k < n
 ·rw [if_pos h,cI_at _ k (by rw [tabL_len]; exact h)]
  have h1:=tabL_at f n k h
  rw [List.getElem?_eq_getElem (by rw [tabL_len]; exact h)] at h1
  rw [Option.some.inj h1]
 ·rw [if_neg h,List.getElem?_eq_none (by rw [cI_len,tabL_len]; omega)]
theorem tab_set (f:Nat→Int) {n i k:Nat} (e:i=k) (h:k < n) (x:Int):splice (cI (tabL f n)) i (AV.v (.int .i64 x)).cells=cI (tabL (fun j=>if j=k then x else f j) n):=by
 subst e
 apply List.ext_getElem?
 intro q
 show (splice _ _ [AV.v (.int .i64 x)])[q]? = _
 rw [splice_get (by rw [cI_len,tabL_len,List.length_singleton]; omega),tab_get,tab_get,List.length_singleton]
 by_cases h1:q=i
 ·subst h1
  rw [if_pos (by omega),if_pos h,if_pos rfl,Nat.sub_self]
  rfl
 ·rw [if_neg (by omega),if_neg h1]
section
variable {c xs : List AV} {q : Int} {i p n k : Nat}
theorem litF_bd:∀ (i j:Nat),0≤litF c q xs i j∧litF c q xs i j≤i
 | 0,j=>by simp [litF]
 | i + 1,j=>by
  have:=litF_bd i j
  simp only [litF]
  split <;> omega
theorem litG_start:tabL (litG c q xs i 0) n=tabL (litF c q xs i) n:=tab_ext (fun j hj=>by unfold litG; rw [if_neg (by omega),Int.add_zero])
theorem litG_end:tabL (litG c q xs i n) n=tabL (litF c q xs (i + 1)) n:=tab_ext (fun j hj=>by
 show litG c q xs i n j=litF c q xs i j + (if lgP c q (intAt xs (0 + i * 1)).toNat j then 1 else 0)
 unfold litG
 by_cases h:lgP c q (intAt xs (0 + i * 1)).toNat j
 ·rw [if_pos ⟨hj,h⟩,if_pos h]
 ·rw [if_neg (fun k=>h k.2),if_neg h])
theorem litG_yes (h:lgP c q (intAt xs (0 + i * 1)).toNat p) (hp:p < n) (e:k=p) {z:Nat} (e2:z=p):splice (cI (tabL (litG c q xs i p) n)) k (AV.v (.int .i64 (intAt (cI (tabL (litG c q xs i p) n)) z + 1))).cells=cI (tabL (litG c q xs i (p + 1)) n):=by
 subst e2
 rw [tab_set _ e hp,tab_int0 _ hp]
 congr 1
 refine tab_ext (fun j hj=>?_)
 unfold litG
 by_cases h1:j=z
 ·subst h1
  rw [if_pos rfl,if_neg (by omega),if_pos ⟨by omega,h⟩,Int.add_zero]
 ·rw [if_neg h1]
  by_cases h2:j < z∧lgP c q (intAt xs (0 + i * 1)).toNat j
  ·rw [if_pos h2,if_pos ⟨by omega,h2.2⟩]
  ·rw [if_neg h2,if_neg (fun k=>h2 ⟨by omega,k.2⟩)]
theorem litG_no (h:¬ lgP c q (intAt xs (0 + i * 1)).toNat p):cI (tabL (litG c q xs i p) n)=cI (tabL (litG c q xs i (p + 1)) n):=by
 congr 1
 refine tab_ext (fun j hj=>?_)
 unfold litG
 by_cases h2:j < p∧lgP c q (intAt xs (0 + i * 1)).toNat j
 ·rw [if_pos h2,if_pos ⟨by omega,h2.2⟩]
 ·rw [if_neg h2,if_neg (fun k=>h2 ⟨by
   by_cases e:j=p
   ·rw [e] at k; exact absurd k.2 h
   ·omega,k.2⟩)]
theorem litG_bd (j:Nat):0≤litG c q xs i p j∧litG c q xs i p j≤i + 1:=by
 have:=litF_bd (c:=c) (q:=q) (xs:=xs) i j
 unfold litG
 split <;> omega
end
def poK1:Code:=bodyC Try.f61
set_option maxHeartbeats 2000000 in
theorem po_2 (n d q:Int) (y:Value) (P:PL) (st:Nat→Bool) (x:Nat) (hE:roE n d q (cT P) P.length=0) (hx:x < P.length) (v:BaseW) (eb:EB) (ec:EC) (hs:LN):Goes pg 37 poK1 (⟨[(0,(.agg (rdT [.v (.int .i64 n),.v (.int .i64 d),.v (.int .i64 q),.xl y P.length 3 (cT P)] (st)))),(1,(.v (.int .i64 x)))],[],0,[]⟩) (BaseW.H (bw v 0 eb ec) hs) (OutM pg Try.f61 37 ((.agg [.v (.int .i64 (poN (cT P) q x)),.v (.int .i64 (poF (cT P) q x)),.v (.int .i64 (poE (cT P) q x)),.v (.int .i64 (poC (cT P) q x))])) [] (bw v 0 eb ec)):=by
 obtain ⟨hm,⟨ha1,ha2,ha3⟩,hp⟩:=roE_zero hE
 have hpx:=hp x hx
 unfold posP at hpx
 have hcT:=cT_len P
 rcases bE (ltI (intAt (cT P) (x * 3 + 0) + q) (intAt (cT P) (x * 3 + 1) - q + 1)) with hqpo3_1 | hqpo3_1
 ·skip
  have ghqpo3_1:=lT hqpo3_1
  exact gL isR_e (gC cm (kN) 200 (T':=⟨[(4,(.ptr 0 0))],[],1,[(0,(.cells [(.v (.int .i64 x)),(.v (.int .i64 (intAt (cT P) (x * 3 + 0) + q))),(.v (.int .i64 (intAt (cT P) (x * 3 + 1) - q + 1))),(.v (.int .i64 (intAt (cT P) (x * 3 + 2))))] 91))]⟩) (e:=.ret) (m:=3) (ps:=[x < P.length,loadL pg (cT P) (x * 3) 58=some (AV.agg [.v (.int .i64 (intAt (cT P) (x * 3 + 0))),.v (.int .i64 (intAt (cT P) (x * 3 + 1))),.v (.int .i64 (intAt (cT P) (x * 3 + 2)))]),inR .i64 (intAt (cT P) (x * 3 + 0) + q),inR .i64 (intAt (cT P) (x * 3 + 1) - q),inR .i64 (intAt (cT P) (x * 3 + 1) - q + 1),(!ltI (intAt (cT P) (x * 3 + 0) + q) (intAt (cT P) (x * 3 + 1) - q + 1))=false]) [.go,.go,.go,.go,.go,.go,.sym,.sym,.go,.go,.go,.go,.go,.go,.go,.go,.go,.go,.go,.go,.go,.go,.go,.go,.go,.go,.go,.go,.b false,.go,.go,.go,.go,.go,.go,.go] [1] [(.ptr 1 0)] [(.cells [(.v (.int .i64 x)),(.v (.int .i64 (intAt (cT P) (x * 3 + 0) + q))),(.v (.int .i64 (intAt (cT P) (x * 3 + 1) - q + 1))),(.v (.int .i64 (intAt (cT P) (x * 3 + 2))))] 91)] (by kernel_rfl) (by kernel_rfl) ⟨hx,(cT_load (by omega) 58 (Try.underlying58) rfl (inf:=(pg.info? 58).getD default) (by kernel_rfl) (by kernel_rfl)),(iRSq (by omega) (by omega)),(iRSq (by omega) (by omega)),(iRSq (by omega) (by omega)),(by rw [hqpo3_1]; rfl),trivial⟩ rfl rfl (by decide) rfl ⟨nr_ptr rfl,trivial⟩ ⟨⟨by show 0 < 1; decide,nrb_cells (nrl_cons (nr_v _) (nrl_cons (nr_v _) (nrl_cons (nr_v _) (nrl_cons (nr_v _) (nrl_nil)))))⟩,trivial⟩) (en_eqM (r:=(.agg [(.v (.int .i64 x)),(.v (.int .i64 (intAt (cT P) (x * 3 + 0) + q))),(.v (.int .i64 (intAt (cT P) (x * 3 + 1) - q + 1))),(.v (.int .i64 (intAt (cT P) (x * 3 + 2))))])) (ys:=[]) (by (unfold poN poF poE poC; rw [if_neg (by omega),if_neg (by omega),if_neg (by omega),if_neg (by omega)] <;> rfl)) (by rfl) (en_retM (by kernel_rfl) (by kernel_rfl) rfl (.inr rfl)))
 ·skip
  have ghqpo3_1:=lF hqpo3_1
  exact gL isR_e (gC cm (kN) 200 (T':=⟨[(4,(.ptr 0 0))],[],1,[(0,(.cells [(.v (.int .i64 (.ofNat 0))),(.v (.int .i64 (.ofNat 0))),(.v (.int .i64 (.ofNat 0))),(.v (.int .i64 (.ofNat 0)))] 91))]⟩) (e:=.ret) (m:=3) (ps:=[x < P.length,loadL pg (cT P) (x * 3) 58=some (AV.agg [.v (.int .i64 (intAt (cT P) (x * 3 + 0))),.v (.int .i64 (intAt (cT P) (x * 3 + 1))),.v (.int .i64 (intAt (cT P) (x * 3 + 2)))]),inR .i64 (intAt (cT P) (x * 3 + 0) + q),inR .i64 (intAt (cT P) (x * 3 + 1) - q),inR .i64 (intAt (cT P) (x * 3 + 1) - q + 1),(!ltI (intAt (cT P) (x * 3 + 0) + q) (intAt (cT P) (x * 3 + 1) - q + 1))=true]) [.go,.go,.go,.go,.go,.go,.sym,.sym,.go,.go,.go,.go,.go,.go,.go,.go,.go,.go,.go,.go,.go,.go,.go,.go,.go,.go,.go,.go,.b true,.go,.go] [1] [(.ptr 1 0)] [(.cells [(.v (.int .i64 (.ofNat 0))),(.v (.int .i64 (.ofNat 0))),(.v (.int .i64 (.ofNat 0))),(.v (.int .i64 (.ofNat 0)))] 91)] (by kernel_rfl) (by kernel_rfl) ⟨hx,(cT_load (by omega) 58 (Try.underlying58) rfl (inf:=(pg.info? 58).getD default) (by kernel_rfl) (by kernel_rfl)),(iRSq (by omega) (by omega)),(iRSq (by omega) (by omega)),(iRSq (by omega) (by omega)),(by rw [hqpo3_1]; rfl),trivial⟩ rfl rfl (by decide) rfl ⟨nr_ptr rfl,trivial⟩ ⟨⟨by show 0 < 1; decide,nrb_cells (nrl_cons (nr_v _) (nrl_cons (nr_v _) (nrl_cons (nr_v _) (nrl_cons (nr_v _) (nrl_nil)))))⟩,trivial⟩) (en_eqM (r:=(.agg [(.v (.int .i64 (.ofNat 0))),(.v (.int .i64 (.ofNat 0))),(.v (.int .i64 (.ofNat 0))),(.v (.int .i64 (.ofNat 0)))])) (ys:=[]) (by (unfold poN poF poE poC; rw [if_pos (by omega),if_pos (by omega),if_pos (by omega),if_pos (by omega)] <;> rfl)) (by rfl) (en_retM (by kernel_rfl) (by kernel_rfl) rfl (.inr rfl)))
theorem post_g (n d q:Int) (y:Value) (P:PL) (st:Nat→Bool) (x:Nat) (hE:roE n d q (cT P) P.length=0) (hx:x < P.length):GivesM pg 61 [(.agg (rdT [.v (.int .i64 n),.v (.int .i64 d),.v (.int .i64 q),.xl y P.length 3 (cT P)] (st))),(.v (.int .i64 x))] [] ((.agg [.v (.int .i64 (poN (cT P) q x)),.v (.int .i64 (poF (cT P) q x)),.v (.int .i64 (poE (cT P) q x)),.v (.int .i64 (poC (cT P) q x))])) [] :=
 givesM_parts 37 (by kernel_rfl) Try.func61 (by kernel_rfl) (by kernel_rfl) (by kernel_rfl) (fun v eb ec=>goes_less (by kernel_rfl) (by kernel_rfl) (by kernel_rfl) (by kernel_rfl) (po_2 n d q y P st x hE hx v eb ec []))
def poS:List AV→List AB→Option ((AV×List AB)×List Prop):=fun args xs =>
 match args with
 | [.agg l,.v v]=>match rdV l,numV v,xs with
  | some (n,d,q,y,m,c),some x,[]=>some ((.agg [.v (.int .i64 (poN c q x.toNat)),.v (.int .i64 (poF c q x.toNat)),.v (.int .i64 (poE c q x.toNat)),.v (.int .i64 (poC c q x.toNat))],[]),[IsRd l,roE n d q c m=0,0≤x∧x < m])
  | _,_,_=>none
 | _=>none
def poO:OrcH:=mOrc 61 poS
theorem known_po:Known pg (clsO poO):=known_m (fun args xs r ys ps h hp=>by
 unfold poS at h
 split at h
 ·split at h
  ·rename_i n d q y m c x e e2
   cases h
   obtain ⟨⟨n,d,q,y,P,st,rfl⟩,hE,hx,-⟩:=hp
   obtain ⟨rfl,rfl,rfl,rfl,rfl,rfl⟩:=rdV_eq e
   obtain ⟨k,rfl⟩:=Int.eq_ofNat_of_zero_le hx.1
   rw [numV_eq e2]
   exact ⟨fun x hx=>absurd hx List.not_mem_nil,fun x hx=>absurd hx List.not_mem_nil,post_g _ _ _ _ P st k hE (by omega)⟩
  ·cases h
 ·cases h)
theorem cI_rep0:∀ n:Nat,repL n [AV.v (.int .i64 0)]=cI (tabL (fun _=>0) n)
 | 0=>rfl
 | n + 1=>by
  have e:∀ n:Nat,repL (n + 1) [AV.v (.int .i64 0)]=repL n [AV.v (.int .i64 0)] ++ [AV.v (.int .i64 0)]:=by
   intro n
   induction n with
   | zero=>rfl
   | succ n ih=>exact congrArg (AV.v (.int .i64 0) :: ·) ih
  rw [e n,cI_rep0 n,tabL,← cI_app]
  rfl
theorem lit_rep (c:List AV) (q:Int) (xs:List AV) (n:Nat):repL n [AV.v (.int .i64 0)]=cI (tabL (litF c q xs 0) n):=cI_rep0 n
theorem freeL_rep0 (n:Nat):FreeL (repL n [AV.v (.int .i64 0)]):=by rw [cI_rep0]; exact fP (cI_plain _)
theorem nbA_splice {K k:Nat} {l v:List AV} (h:∀ u∈l,NB K u) (h2:∀ u∈v,NB K u):∀ u∈splice l k v,NB K u:=fun u hu=>by
 unfold splice at hu
 rcases List.mem_append.1 hu with h3 | h3
 ·exact h u (List.mem_of_mem_take h3)
 ·rcases List.mem_append.1 h3 with h4 | h4
  ·exact h2 u h4
  ·exact h u (List.mem_of_mem_drop h4)
theorem nbA_plain {K:Nat} {l:List AV} {cs:List Value} (h:plainL l=some cs):∀ u∈l,NB K u:=nb_of_plainL h
def ltOa:OrcH:=orO poO chOa
def ltOb:OrcH:=orO poO chOb
theorem known_lta:Known pg (clsO ltOa):=known_or known_po known_cha
theorem known_ltb:Known pg (clsO ltOb):=known_or known_po known_chb
theorem fltM_bd {n d q:Int} {y:Value} {P:PL} {st:Nat→Bool} {i:Nat} (h:i < (flt (stM n d q y P st) P.length).length):0≤intAt (cI (flt (stM n d q y P st) P.length)) (0 + i * 1)∧intAt (cI (flt (stM n d q y P st) P.length)) (0 + i * 1) < P.length:=by
 rw [show 0 + i * 1=i by omega]
 exact flt_int h
end
end Go.Proofs.Ytnphldmnakbknaa
