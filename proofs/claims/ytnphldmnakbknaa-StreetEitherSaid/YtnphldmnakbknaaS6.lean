import Derived.Test.YtnphldmnakbknaaS3
set_option linter.all false
/- What is known of CheckRoad, isChoice, rising. -/
namespace Go.Proofs.Ytnphldmnakbknaa
open Go Ev
noncomputable section
def roadV (a:AV):Option (Int×Int×Int×Value×Nat×List AV) :=
 match a with
 | .agg [.v v1,.v v2,.v v3,.xl y m 3 c]=>match numV v1,numV v2,numV v3 with
  | some n,some d,some q=>some (n,d,q,y,m,c)
  | _,_,_=>none
 | _=>none
theorem roadV_eq {a:AV} {n d q:Int} {y:Value} {m:Nat} {c:List AV} (h:roadV a=some (n,d,q,y,m,c)):a = .agg [.v (.int .i64 n),.v (.int .i64 d),.v (.int .i64 q),.xl y m 3 c]:=by
 unfold roadV at h
 split at h
 ·split at h
  ·rename_i h1 h2 h3
   cases h
   rw [numV_eq h1,numV_eq h2,numV_eq h3]
  ·cases h
 ·cases h
def IsT (m:Nat) (c:List AV):Prop:=∃ P,c=cT P∧m=P.length
theorem ext_road (n d q:Int) (y:Value) (P:PL):Ext (.agg [.v (.int .i64 n),.v (.int .i64 d),.v (.int .i64 q),.xl y P.length 3 (cT P)]):=ext_agg (extL_cons (ext_v _) (extL_cons (ext_v _) (extL_cons (ext_v _) (extL_cons (ext_xl (extL_plain (cT_plain P))) extL_nil))))
theorem extL_cI (C:List Int):ExtL (cI C):=extL_plain (cI_plain C)
def roS:List AV→Option (Res1×List Prop):=fun args =>
 match args with
 | [a]=>match roadV a with
  | some (n,d,q,y,m,c)=>some (.val (.v (.int .i64 (roE n d q c m))),[IsT m c])
  | none=>none
 | _=>none
def roO:OrcH:=extOrc 19 roS
theorem known_ro:Known pg (clsO roO):=known_ext (fun args r ps h hp=>by
 unfold roS at h
 split at h
 ·split at h
  ·rename_i n d q y m c e
   cases h
   obtain ⟨⟨P,rfl,rfl⟩,-⟩:=hp
   rw [roadV_eq e]
   exact ⟨extL_cons (ext_road n d q y P) extL_nil,_,rfl,road_g n d q y P⟩
  ·cases h
 ·cases h)
def rrS:List AV→Option (Res1×List Prop):=fun args =>
 match args with
 | [a]=>match roadV a with
  | some (n,d,q,y,m,c)=>some (.val (.v (.int .i64 (roE n d q c m))),[IsT m c])
  | none=>none
 | _=>none
def rrO:OrcH:=extOrc 20 rrS
theorem known_rr:Known pg (clsO rrO):=known_ext (fun args r ps h hp=>by
 unfold rrS at h
 split at h
 ·split at h
  ·rename_i n d q y m c e
   cases h
   obtain ⟨⟨P,rfl,rfl⟩,-⟩:=hp
   rw [roadV_eq e]
   exact ⟨extL_cons (ext_road n d q y P) extL_nil,_,rfl,rroad_g n d q y P⟩
  ·cases h
 ·cases h)
def ccS:List Vw→Option (Res1×List Prop):=fun vs =>
 match vs with
 | [.lst n k c,.val v]=>match numV v with
  | some m=>some (.val (.v (.bool (chB c n m))),[IsC k n c,n≤1000,0≤m∧m≤1000])
  | none=>none
 | _=>none
def ccO:OrcH:=avOrc 59 [1,0] ccS
theorem known_cc:Known pg (clsO ccO):=known_av (fun vs r ps h hp=>by
 unfold ccS at h
 split at h
 ·split at h
  ·rename_i m e
   cases h
   obtain ⟨⟨rfl,L,rfl,rfl⟩,hn,hm,-⟩:=hp
   refine ⟨⟨⟨_,cI_plain L⟩,trivial⟩,fun ys hy=>?_⟩
   obtain ⟨y1,y2,rfl⟩:=len2 hy
   rw [numV_eq e]
   exact ⟨_,rfl,choice_g y1 L m hn hm⟩
  ·cases h
 ·cases h)
def riS:List Vw→Option (Res1×List Prop):=fun vs =>
 match vs with
 | [.lst n k c,.val v]=>match numV v with
  | some m=>some (.val (.v (.bool (chB c n m))),[IsC k n c,n≤1000])
  | none=>none
 | _=>none
def riO:OrcH:=avOrc 49 [1,0] riS
theorem known_ri:Known pg (clsO riO):=known_av (fun vs r ps h hp=>by
 unfold riS at h
 split at h
 ·split at h
  ·rename_i m e
   cases h
   obtain ⟨⟨rfl,L,rfl,rfl⟩,hn,-⟩:=hp
   refine ⟨⟨⟨_,cI_plain L⟩,trivial⟩,fun ys hy=>?_⟩
   obtain ⟨y1,y2,rfl⟩:=len2 hy
   rw [numV_eq e]
   exact ⟨_,rfl,rising_g y1 L m hn⟩
  ·cases h
 ·cases h)
def ckK1:Code:=bodyC Try.f40
set_option maxHeartbeats 2000000 in
theorem ck_2 (n d q:Int) (y:Value) (P:PL) (z:Value) (C:List Int) (hC:C.length≤1000) (w:World) (hs:LN):Goes pg 17 ckK1 (⟨[(0,(.agg [.v (.int .i64 n),.v (.int .i64 d),.v (.int .i64 q),.xl y P.length 3 (cT P)])),(1,(.xl z C.length 1 (cI C)))],[],0,[]⟩) (BaseW.H w hs) (OutH pg Try.f40 17 (.int .i64 (icE n d q (cT P) P.length (cI C) C.length)) w):=by
 have hcl_C:=cI_len C
 rcases bE (eqI (roE n d q (cT P) P.length) 0) with hqck3_1 | hqck3_1
 ·skip
  have ghqck3_1:=eqI_true hqck3_1
  obtain ⟨hm24,-,-⟩:=roE_zero (eqI_true hqck3_1)
  rcases bE (chB (cI C) C.length P.length) with hqck3_2 | hqck3_2
  ·skip
   exact gL isR_e (gT cm (known_or known_ro known_cc) 200 (T':=⟨[(4,(.v (.int .i64 (.ofNat 0))))],[],1,[]⟩) (e:=.ret) (ps:=[IsT P.length (cT P),(!eqI (roE n d q (cT P) P.length) 0)=false,IsC (0 + 1) C.length (cI C),C.length≤1000,(0:Int)≤((P.length:Nat):Int)∧((P.length:Nat):Int)≤1000,(!chB (cI C) C.length P.length)=false]) [.go,.go,.go,.go,.go,.go,.b false,.go,.go,.go,.go,.go,.b false,.go] (by kernel_rfl) (by kernel_rfl) ⟨⟨P,rfl,rfl⟩,(by rw [hqck3_1]; rfl),⟨rfl,_,rfl,rfl⟩,(by omega),⟨by omega,by omega⟩,(by rw [hqck3_2]; rfl),trivial⟩ rfl) (Hd.en_eq (r:=(.int .i64 0)) (by (unfold icE; rw [if_pos (eqI_true hqck3_1)]; rw [if_pos hqck3_2])) (Hd.en_ret (v:=(.v (.int .i64 (.ofNat 0)))) (by kernel_rfl) rfl))
  ·skip
   exact gL isR_e (gT cm (known_or known_ro known_cc) 200 (T':=⟨[(4,(.v (.int .i64 (.ofNat 3))))],[],1,[]⟩) (e:=.ret) (ps:=[IsT P.length (cT P),(!eqI (roE n d q (cT P) P.length) 0)=false,IsC (0 + 1) C.length (cI C),C.length≤1000,(0:Int)≤((P.length:Nat):Int)∧((P.length:Nat):Int)≤1000,(!chB (cI C) C.length P.length)=true]) [.go,.go,.go,.go,.go,.go,.b false,.go,.go,.go,.go,.go,.b true,.go] (by kernel_rfl) (by kernel_rfl) ⟨⟨P,rfl,rfl⟩,(by rw [hqck3_1]; rfl),⟨rfl,_,rfl,rfl⟩,(by omega),⟨by omega,by omega⟩,(by rw [hqck3_2]; rfl),trivial⟩ rfl) (Hd.en_eq (r:=(.int .i64 3)) (by (unfold icE; rw [if_pos (eqI_true hqck3_1)]; rw [if_neg (by rw [hqck3_2]; decide)])) (Hd.en_ret (v:=(.v (.int .i64 (.ofNat 3)))) (by kernel_rfl) rfl))
 ·skip
  have ghqck3_1:=eqI_false hqck3_1
  exact gL isR_e (gT cm (known_or known_ro known_cc) 200 (T':=⟨[(4,(.v (.int .i64 (roE n d q (cT P) P.length))))],[],1,[]⟩) (e:=.ret) (ps:=[IsT P.length (cT P),(!eqI (roE n d q (cT P) P.length) 0)=true]) [.go,.go,.go,.go,.go,.go,.b true,.go,.go] (by kernel_rfl) (by kernel_rfl) ⟨⟨P,rfl,rfl⟩,(by rw [hqck3_1]; rfl),trivial⟩ rfl) (Hd.en_eq (r:=(.int .i64 (roE n d q (cT P) P.length))) (by (unfold icE; rw [if_neg (eqI_false hqck3_1)])) (Hd.en_ret (v:=(.v (.int .i64 (roE n d q (cT P) P.length)))) (by kernel_rfl) rfl))
theorem check_g (n d q:Int) (y:Value) (P:PL) (z:Value) (C:List Int) (hC:C.length≤1000):GivesA pg 40 [(.agg [.v (.int .i64 n),.v (.int .i64 d),.v (.int .i64 q),.xl y P.length 3 (cT P)]),(.xl z C.length 1 (cI C))] (.int .i64 (icE n d q (cT P) P.length (cI C) C.length)) :=
 givesA_partsH 17 Try.func40 (by kernel_rfl) (by kernel_rfl) (by kernel_rfl) (fun w=>goes_less (by kernel_rfl) (by kernel_rfl) (by kernel_rfl) (by kernel_rfl) (ck_2 n d q y P z C hC w []))
def rkK1:Code:=bodyC Try.f25
set_option maxHeartbeats 2000000 in
theorem rk_2 (n d q:Int) (y:Value) (P:PL) (z:Value) (C:List Int) (hC:C.length≤1000) (w:World) (hs:LN):Goes pg 16 rkK1 (⟨[(0,(.agg [.v (.int .i64 n),.v (.int .i64 d),.v (.int .i64 q),.xl y P.length 3 (cT P)])),(1,(.xl z C.length 1 (cI C)))],[],0,[]⟩) (BaseW.H w hs) (OutH pg Try.f25 16 (.int .i64 (icE n d q (cT P) P.length (cI C) C.length)) w):=by
 have hcl_C:=cI_len C
 rcases bE (eqI (roE n d q (cT P) P.length) 0) with hqrk3_1 | hqrk3_1
 ·skip
  have ghqrk3_1:=eqI_true hqrk3_1
  obtain ⟨hm24,-,-⟩:=roE_zero (eqI_true hqrk3_1)
  rcases bE (chB (cI C) C.length P.length) with hqrk3_2 | hqrk3_2
  ·skip
   exact gL isR_e (gT cm (known_or known_rr known_ri) 200 (T':=⟨[(4,(.v (.int .i64 (.ofNat 0))))],[],1,[]⟩) (e:=.ret) (ps:=[IsT P.length (cT P),(!eqI (roE n d q (cT P) P.length) 0)=false,IsC (0 + 1) C.length (cI C),C.length≤1000,(!chB (cI C) C.length P.length)=false]) [.go,.go,.go,.go,.b false,.go,.go,.go,.go,.go,.b false,.go] (by kernel_rfl) (by kernel_rfl) ⟨⟨P,rfl,rfl⟩,(by rw [hqrk3_1]; rfl),⟨rfl,_,rfl,rfl⟩,(by omega),(by rw [hqrk3_2]; rfl),trivial⟩ rfl) (Hd.en_eq (r:=(.int .i64 0)) (by (unfold icE; rw [if_pos (eqI_true hqrk3_1)]; rw [if_pos hqrk3_2])) (Hd.en_ret (v:=(.v (.int .i64 (.ofNat 0)))) (by kernel_rfl) rfl))
  ·skip
   exact gL isR_e (gT cm (known_or known_rr known_ri) 200 (T':=⟨[(4,(.v (.int .i64 (.ofNat 3))))],[],1,[]⟩) (e:=.ret) (ps:=[IsT P.length (cT P),(!eqI (roE n d q (cT P) P.length) 0)=false,IsC (0 + 1) C.length (cI C),C.length≤1000,(!chB (cI C) C.length P.length)=true]) [.go,.go,.go,.go,.b false,.go,.go,.go,.go,.go,.b true,.go] (by kernel_rfl) (by kernel_rfl) ⟨⟨P,rfl,rfl⟩,(by rw [hqrk3_1]; rfl),⟨rfl,_,rfl,rfl⟩,(by omega),(by rw [hqrk3_2]; rfl),trivial⟩ rfl) (Hd.en_eq (r:=(.int .i64 3)) (by (unfold icE; rw [if_pos (eqI_true hqrk3_1)]; rw [if_neg (by rw [hqrk3_2]; decide)])) (Hd.en_ret (v:=(.v (.int .i64 (.ofNat 3)))) (by kernel_rfl) rfl))
 ·skip
  have ghqrk3_1:=eqI_false hqrk3_1
  exact gL isR_e (gT cm (known_or known_rr known_ri) 200 (T':=⟨[(4,(.v (.int .i64 (roE n d q (cT P) P.length))))],[],1,[]⟩) (e:=.ret) (ps:=[IsT P.length (cT P),(!eqI (roE n d q (cT P) P.length) 0)=true,IsT P.length (cT P)]) [.go,.go,.go,.go,.b true,.go,.go] (by kernel_rfl) (by kernel_rfl) ⟨⟨P,rfl,rfl⟩,(by rw [hqrk3_1]; rfl),⟨P,rfl,rfl⟩,trivial⟩ rfl) (Hd.en_eq (r:=(.int .i64 (roE n d q (cT P) P.length))) (by (unfold icE; rw [if_neg (eqI_false hqrk3_1)])) (Hd.en_ret (v:=(.v (.int .i64 (roE n d q (cT P) P.length)))) (by kernel_rfl) rfl))
theorem isch_g (n d q:Int) (y:Value) (P:PL) (z:Value) (C:List Int) (hC:C.length≤1000):GivesA pg 25 [(.agg [.v (.int .i64 n),.v (.int .i64 d),.v (.int .i64 q),.xl y P.length 3 (cT P)]),(.xl z C.length 1 (cI C))] (.int .i64 (icE n d q (cT P) P.length (cI C) C.length)) :=
 givesA_partsH 16 Try.func25 (by kernel_rfl) (by kernel_rfl) (by kernel_rfl) (fun w=>goes_less (by kernel_rfl) (by kernel_rfl) (by kernel_rfl) (by kernel_rfl) (rk_2 n d q y P z C hC w []))
abbrev rdT (l:List AV) (st:Nat→Bool):List AV:=l ++ [.v (.bool (st 0)),.v (.bool (st 1)),.v (.bool (st 2)),.v (.bool (st 3)),.v (.bool (st 4)),.v (.bool (st 5)),.v (.bool (st 6)),.v (.bool (st 7)),.v (.bool (st 8)),.v (.bool (st 9)),.v (.bool (st 10)),.v (.bool (st 11)),.v (.bool (st 12)),.v (.bool (st 13)),.v (.bool (st 14)),.v (.bool (st 15)),.v (.bool (st 16)),.v (.bool (st 17)),.v (.bool (st 18)),.v (.bool (st 19)),.v (.bool (st 20)),.v (.bool (st 21)),.v (.bool (st 22)),.v (.bool (st 23))]
theorem rdT_len {l:List AV} {st:Nat→Bool} (h:l.length=4):(rdT l st).length=28:=by unfold rdT; rw [List.length_append,h]; rfl
theorem rdT_at {l:List AV} {st:Nat→Bool} (hl:l.length=4):∀ j,j < 24→(rdT l st)[4 + j]? = some (.v (.bool (st j))):=fun j hj=>by
 unfold rdT
 rw [List.getElem?_append_right (by omega),hl,Nat.add_sub_cancel_left]
 match j,hj with
 | 0,_=>rfl
 | 1,_=>rfl
 | 2,_=>rfl
 | 3,_=>rfl
 | 4,_=>rfl
 | 5,_=>rfl
 | 6,_=>rfl
 | 7,_=>rfl
 | 8,_=>rfl
 | 9,_=>rfl
 | 10,_=>rfl
 | 11,_=>rfl
 | 12,_=>rfl
 | 13,_=>rfl
 | 14,_=>rfl
 | 15,_=>rfl
 | 16,_=>rfl
 | 17,_=>rfl
 | 18,_=>rfl
 | 19,_=>rfl
 | 20,_=>rfl
 | 21,_=>rfl
 | 22,_=>rfl
 | 23,_=>rfl
 | j + 24,h=>exact absurd h (by omega)
theorem rdT_get {l:List AV} {st:Nat→Bool} (hl:l.length=4) (q:Nat):(rdT l st)[q]? = if q < 4 then l[q]? else if q < 28 then some (.v (.bool (st (q - 4)))) else none:=by
 by_cases h1:q < 4
 ·rw [if_pos h1]
  unfold rdT
  rw [List.getElem?_append_left (by omega)]
 ·rw [if_neg h1]
  by_cases h2:q < 28
  ·rw [if_pos h2]
   have:=rdT_at (st:=st) hl (q - 4) (by omega)
   rw [show 4 + (q - 4)=q by omega] at this
   exact this
  ·rw [if_neg h2,List.getElem?_eq_none (by rw [rdT_len hl]; omega)]
theorem rdT_bool {l:List AV} {st:Nat→Bool} (hl:l.length=4) {i j:Nat} (e:i=4 + j) (hj:j < 24):boolAt (rdT l st) i=st j:=by
 subst e
 unfold boolAt
 rw [rdT_at hl j hj]
theorem rdT_ld {l:List AV} {st:Nat→Bool} (hl:l.length=4) {i:Nat} (h4:4≤i) (h:i < 28) (t:TypeId) {d:TypeDesc} (hd:pg.underlying t=some d) (ha:aggD d=false):loadL pg (rdT l st) i t=some (.v (.bool (boolAt (rdT l st) i))):=by
 have e:=rdT_at (st:=st) hl (i - 4) (by omega)
 rw [show 4 + (i - 4)=i by omega] at e
 simp only [loadL,hd,ha,getL_eq,e,boolAt]
def updB (st:Nat→Bool) (j:Nat) (b:Bool):Nat→Bool:=fun k=>if k=j then b else st k
theorem rdT_set {l:List AV} {st:Nat→Bool} (hl:l.length=4) {i j:Nat} (e:i=4 + j) (h:j < 24) (b:Bool):splice (rdT l st) i (AV.v (.bool b)).cells=rdT l (updB st j b):=by
 subst e
 apply List.ext_getElem?
 intro q
 show (splice _ _ [AV.v (.bool b)])[q]? = _
 rw [splice_get (by rw [rdT_len hl,List.length_singleton]; omega),rdT_get hl,rdT_get hl,List.length_singleton]
 unfold updB
 by_cases h1:q=4 + j
 ·subst h1
  rw [if_pos (by omega),if_neg (by omega),if_pos (by omega),if_pos (by omega),Nat.sub_self]
  rfl
 ·rw [if_neg (by omega)]
  split
  ·rfl
  ·split
   ·rw [if_neg (by omega)]
   ·rfl
def stC (c:List AV):Nat→Nat→Bool
 | 0=>fun _=>false
 | i + 1=>updB (stC c i) (intAt c (i * 1)).toNat true
def flt (st:Nat→Bool):Nat→List Int
 | 0=>[]
 | j + 1=>if st j then flt st j ++ [((j:Nat):Int)] else flt st j
theorem flt_t {st:Nat→Bool} {j:Nat} (h:st j=true):flt st (j + 1)=flt st j ++ [((j:Nat):Int)]:=by simp only [flt,h,if_true]
theorem flt_f {st:Nat→Bool} {j:Nat} (h:st j=false):flt st (j + 1)=flt st j:=by simp only [flt,h,Bool.false_eq_true,if_false]
theorem flt_le (st:Nat→Bool):∀ j,(flt st j).length≤j
 | 0=>Nat.le_refl _
 | j + 1=>by
  have:=flt_le st j
  simp only [flt]
  split
  ·rw [List.length_append,List.length_singleton]; omega
  ·omega
theorem flt_mono (st:Nat→Bool):∀ {k n:Nat},k≤n→(flt st k).length≤(flt st n).length
 | k,0,h=>by rw [show k=0 by omega]; exact Nat.le_refl _
 | k,n + 1,h=>by
  by_cases e:k=n + 1
  ·rw [e]; exact Nat.le_refl _
  ·have:=flt_mono st (show k≤n by omega)
   simp only [flt]
   split
   ·rw [List.length_append,List.length_singleton]; omega
   ·exact this
theorem flt_lenT {st:Nat→Bool} {j k:Nat} (h:st j=true) (hc:(flt st j).length=k):(flt st (j + 1)).length=k + 1:=by rw [flt_t h,List.length_append,hc]; rfl
theorem flt_lenF {st:Nat→Bool} {j k:Nat} (h:st j=false) (hc:(flt st j).length=k):(flt st (j + 1)).length=k:=by rw [flt_f h,hc]
theorem flt_rowT {st:Nat→Bool} {j:Nat} (h:st j=true):cI (flt st (j + 1))=cI (flt st j) ++ [.v (.int .i64 j)]:=by rw [flt_t h,← cI_app]; rfl
theorem flt_rowF {st:Nat→Bool} {j:Nat} (h:st j=false):cI (flt st (j + 1))=cI (flt st j):=by rw [flt_f h]
theorem takeF {l:List Int} {k:Nat} (h:l.length=k):List.take (k * 1) (List.drop 0 (cI l))=cI l:=by
 rw [List.drop_zero,List.take_of_length_le (by rw [cI_len]; omega)]
theorem flt_nil {st:Nat→Bool} {j:Nat} (h:(flt st j).length=0):cI (flt st j)=[]:=by rw [List.eq_nil_of_length_eq_zero h]; rfl
theorem flt_mem {st:Nat→Bool}:∀ {j:Nat} {x:Int},x∈flt st j→0≤x∧x < j∧st x.toNat=true
 | 0,x,h=>absurd h List.not_mem_nil
 | j + 1,x,h=>by
  by_cases e:st j=true
  ·rw [flt_t e] at h
   rcases List.mem_append.1 h with h1 | h1
   ·have:=flt_mem h1; exact ⟨this.1,by omega,this.2.2⟩
   ·rw [List.mem_singleton] at h1
    subst h1
    exact ⟨by omega,by omega,e⟩
  ·rw [flt_f (by simpa using e)] at h
   have:=flt_mem h; exact ⟨this.1,by omega,this.2.2⟩
theorem nrl_free {rs:List Nat} {l:List AV} (h:FreeL l):NRL rs l l:=fun σ xs e=>h σ (σ.ren rs) rfl xs e
theorem freeL_v {x:Value}:FreeL [.v x]:=fP (xs:=[x]) rfl
theorem nb_rd {K:Nat} (n d q:Int) (y:Value) (P:PL) (st:Nat→Bool):∀ v∈rdT [.v (.int .i64 n),.v (.int .i64 d),.v (.int .i64 q),.xl y P.length 3 (cT P)] st,NB K v:=nb_cons (nb_v _) (nb_cons (nb_v _) (nb_cons (nb_v _) (nb_cons (nb_xl (cT_plain P)) (nb_cons (nb_v _) (nb_cons (nb_v _) (nb_cons (nb_v _) (nb_cons (nb_v _) (nb_cons (nb_v _) (nb_cons (nb_v _) (nb_cons (nb_v _) (nb_cons (nb_v _) (nb_cons (nb_v _) (nb_cons (nb_v _) (nb_cons (nb_v _) (nb_cons (nb_v _) (nb_cons (nb_v _) (nb_cons (nb_v _) (nb_cons (nb_v _) (nb_cons (nb_v _) (nb_cons (nb_v _) (nb_cons (nb_v _) (nb_cons (nb_v _) (nb_cons (nb_v _) (nb_cons (nb_v _) (nb_cons (nb_v _) (nb_cons (nb_v _) (nb_cons (nb_v _) (fun _ hz=>absurd hz List.not_mem_nil))))))))))))))))))))))))))))
theorem freeL_rd (n d q:Int) (y:Value) (P:PL) (st:Nat→Bool):FreeL (rdT [.v (.int .i64 n),.v (.int .i64 d),.v (.int .i64 q),.xl y P.length 3 (cT P)] st):=freeL_cons freeL_v (freeL_cons freeL_v (freeL_cons freeL_v (freeL_cons (freeL_xl (fP (cT_plain P))) (freeL_cons freeL_v (freeL_cons freeL_v (freeL_cons freeL_v (freeL_cons freeL_v (freeL_cons freeL_v (freeL_cons freeL_v (freeL_cons freeL_v (freeL_cons freeL_v (freeL_cons freeL_v (freeL_cons freeL_v (freeL_cons freeL_v (freeL_cons freeL_v (freeL_cons freeL_v (freeL_cons freeL_v (freeL_cons freeL_v (freeL_cons freeL_v (freeL_cons freeL_v (freeL_cons freeL_v (freeL_cons freeL_v (freeL_cons freeL_v (freeL_cons freeL_v (freeL_cons freeL_v (freeL_cons freeL_v (freeL_cons freeL_v (freeL_nil))))))))))))))))))))))))))))
theorem flt_int {st:Nat→Bool} {j i:Nat} (h:i < (flt st j).length):0≤intAt (cI (flt st j)) i∧intAt (cI (flt st j)) i < j:=by
 rw [cI_int h]
 have:=flt_mem (List.getElem_mem h)
 exact ⟨this.1,this.2.1⟩
end
end Go.Proofs.Ytnphldmnakbknaa
