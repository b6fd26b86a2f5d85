import Derived.Test.YtnphldmnakbknaaK7
import Derived.Test.YtnphldmnakbknaaK8
import Derived.Test.YtnphldmnakbknaaI1
import Derived.Test.YtnphldmnakbknaaJ2
set_option maxHeartbeats 2000000
set_option linter.all false
/- Mathematics of Dark's proof. -/
namespace Go.Proofs.Ytnphldmnakbknaa
open Go Ev
noncomputable section
section
variable (C : List Int) (P : PL) (d : Int) (n : Nat) (q : Int) (y z : Value)
abbrev qN3_1:Ev.Lit:=⟨[(0,(.agg [.v (.int .i64 n),.v (.int .i64 d),.v (.int .i64 q),.xl y P.length 3 (cT P)])),(1,(.xl z C.length 1 (cI C)))],[],0,[]⟩
end
theorem ll_take {c:List AV} {q:Int} {C:List Int} {j:Nat}:∀ {i:Nat},i≤C.length→llF c q (cI C) j i=(C.take i).filter (fun x=>lgB c q x.toNat j)
 | 0,_=>rfl
 | i + 1,h=>by
  have ih:=ll_take (c:=c) (q:=q) (C:=C) (j:=j) (i:=i) (by omega)
  have e:intAt (cI C) (0 + i * 1)=C[i]:=by rw [Nat.zero_add,Nat.mul_one]; exact cI_int (by omega)
  rw [llF,e,ih,List.take_succ_eq_append_getElem (show i < C.length by omega),List.filter_append]
  have e1:List.filter (fun x=>lgB c q x.toNat j) [C[i]]=if lgB c q C[i].toNat j=true then [C[i]] else []:=by
   simp only [List.filter_cons,List.filter_nil]
  rw [e1]
  by_cases hl:lgB c q C[i].toNat j=true
  ·rw [if_pos hl,if_pos hl]
  ·rw [if_neg hl,if_neg hl,List.append_nil]
theorem ll_filter {c:List AV} {q:Int} {C:List Int} {j:Nat}:llF c q (cI C) j C.length=C.filter (fun x=>lgB c q x.toNat j):=by
 rw [ll_take (Nat.le_refl _),List.take_of_length_le (Nat.le_refl _)]
theorem inB_mem {L:List Int} {x:Int}:inB (cI L) L.length x=true↔x∈L:=by
 rw [inB_true]
 constructor
 ·rintro ⟨i,hi,e⟩
  rw [← e,Nat.mul_one,cI_int hi]
  exact List.getElem_mem hi
 ·intro h
  obtain ⟨i,hi,e⟩:=List.getElem_of_mem h
  exact ⟨i,hi,by rw [Nat.mul_one,cI_int hi]; exact e⟩
theorem ch_pair {C:List Int} {m:Int} (h:chP (cI C) C.length m):C.Pairwise (· < ·):=List.pairwise_iff_getElem.2 (fun i j hi hj hij=>by
 have:=chP_lt h i j hij hj
 rw [Nat.mul_one,Nat.mul_one,cI_int hi,cI_int hj] at this
 exact this)
theorem inc_pair {L:List Int} (h:L.Pairwise (· < ·)):incB (cI L) L.length=true:=incB_true.2 (fun i hi=>by
 rw [Nat.mul_one,Nat.mul_one,cI_int (show i < L.length by omega),cI_int hi]
 exact List.pairwise_iff_getElem.1 h i (i + 1) (by omega) hi (by omega))
section
variable {n m : Nat} {d q : Int} {c : List AV} {C : List Int}
theorem drL_lt (h:0 < (drL c q d (cI C) C.length n).length):drV c q d (cI C) C.length n < n:=by
 unfold drL at h
 split at h
 ·assumption
 ·simp at h
theorem drL_le:(drL c q d (cI C) C.length n).length≤C.length:=by
 unfold drL
 split
 ·rw [ll_filter]; exact List.length_filter_le _ _
 ·exact Nat.zero_le _
theorem drV_z (h:C.length=0) (hn:1≤n) (hd:0≤d):drV c q d (cI C) C.length n=0:=(dr_at (i:=0) (fun j hj=>by omega) (by rw [h]; exact hd) (by omega)).1
theorem drL_z (h:drV c q d (cI C) C.length n=n):(drL c q d (cI C) C.length n).length=0:=by
 unfold drL
 rw [h,if_neg (Nat.lt_irrefl _)]
 rfl
theorem dk_ok (hE:icE n d q c m (cI C) C.length=0) (hlt:drV c q d (cI C) C.length n < n):cdE n d q c m (cI C) C.length ((drV c q d (cI C) C.length n:Nat):Int) (cI (drL c q d (cI C) C.length n)) (drL c q d (cI C) C.length n).length=0:=by
 obtain ⟨-,hch⟩:=icE_zero hE
 have hL:drL c q d (cI C) C.length n=C.filter (fun x=>lgB c q x.toNat (drV c q d (cI C) C.length n)):=by
  unfold drL
  rw [if_pos hlt,ll_filter]
 have hd:litF c q (cI C) C.length (drV c q d (cI C) C.length n)≤d:=of_decide_eq_true (fst_lt (f:=dkB c q d (cI C) C.length) hlt).1
 have hlen:(((drL c q d (cI C) C.length n).length:Nat):Int)≤d:=by
  rw [hL,← ll_filter,ll_len]
  exact hd
 generalize drL c q d (cI C) C.length n=L at *
 generalize drV c q d (cI C) C.length n=p at *
 refine cdE_ok hE ⟨⟨by omega,by omega⟩,hlen,inc_pair (by rw [hL]; exact (ch_pair hch).filter _),fun i hi=>?_⟩ (lvB_no ?_)
 ·rw [Nat.mul_one,cI_int hi]
  refine inB_mem.2 ?_
  have h9:∀ x,x∈L→x∈C:=fun x hx=>by
   rw [hL] at hx
   exact (List.mem_filter.1 hx).1
  exact h9 _ (List.getElem_mem hi)
 ·rintro ⟨i,hi,hn,hl⟩
  rw [Nat.mul_one,cI_int hi] at hn hl
  have h9:C[i]∈L:=by
   rw [hL]
   exact List.mem_filter.2 ⟨List.getElem_mem hi,lgB_true.2 hl⟩
  rw [inB_mem.2 h9] at hn
  cases hn
end
def o5a:OrcH:=orO (orO ckO nrO) dkOa
theorem known_o5a:Known pg (clsO o5a):=known_or (known_or known_ck known_nr) known_dka
def o5n:OrcH:=orO (orO ckO nrO) dkOn
theorem known_o5n:Known pg (clsO o5n):=known_or (known_or known_ck known_nr) known_dkn
def o5r:OrcH:=orO (orO ckO nrO) dkOr
theorem known_o5r:Known pg (clsO o5r):=known_or (known_or known_ck known_nr) known_dkr
def dDaK1:Code:=bodyC Try.f24
theorem dDa_2 (n:Nat) (d q:Int) (y:Value) (P:PL) (z:Value) (C:List Int) (hE:icE n d q (cT P) P.length (cI C) C.length=0) (hC:C.length≤1000) (h0:C.length=0) (v:BaseW) (eb:EB) (ec:EC) (hs:LN):Goes pg 29 dDaK1 ((qN3_1 C P d n q y z)) (BaseW.H (bw v 0 eb ec) hs) (OutM pg Try.f24 29 ((.tup [.v (.int .i64 0),.v (.slice none 0 0),.v (.int .i64 0)])) [] (bw v 0 eb ec)):=by
 have hcl_C:=cI_len C
 obtain ⟨hR,hch⟩:=icE_zero hE
 obtain ⟨hm,⟨ha1,ha2,ha3⟩,hp⟩:=roE_zero hR
 have hX:(flt (stM n d q y P (stC (cI C) C.length)) P.length)=C:=(flt_M hm).trans (flt_stC hch)
 rcases bE (eqI (icE n d q (cT P) P.length (cI C) C.length) 0) with hqdDa3_1 | hqdDa3_1
 ·skip
  have ghqdDa3_1:=eqI_true hqdDa3_1
  rcases bE (eqI 0 n) with hqdDa3_2 | hqdDa3_2
  ·skip
   have ghqdDa3_2:=eqI_true hqdDa3_2
   exact absurd (eqI_true hqdDa3_2) (by omega)
  ·skip
   have ghqdDa3_2:=eqI_false hqdDa3_2
   exact gL isR_e (gK cm (known_o5a) 200 (T':=⟨[(4,(.v (.int .i64 (.ofNat 0)))),(5,(.v (Value.slice none 0 0))),(6,(.v (.int .i64 (.ofNat 0))))],[],0,[]⟩) (e:=.ret) (m:=1) (ps:=[IsT P.length (cT P),IsC 1 C.length (cI C),C.length≤1000,(!eqI (icE n d q (cT P) P.length (cI C) C.length) 0)=false,FreeL (cT P),FreeL (cI C),IsT P.length (cT P),IsC 1 C.length (cI C),P.length≤24,C.length≤1000,chB (cI C) C.length P.length=true,FreeL (cT P),FreeL (cT P),IsRd (rdT [.v (.int .i64 n),.v (.int .i64 d),.v (.int .i64 q),AV.xl y P.length 3 (cT P)] (stC (cI C) C.length)),roE n d q (cT P) P.length=0,(flt (stM n d q y P (stC (cI C) C.length)) P.length).length=0,eqI 0 n=false]) [.go,.go,.go,.go,.go,.go,.go,.go,.go,.b false,.go,.go,.go,.go,.go,.go,.go,.go,.go,.go,.go,.b false,.go,.go,.go,.go,.go] (by kernel_rfl) (by kernel_rfl) ⟨⟨P,rfl,rfl⟩,⟨rfl,_,rfl,rfl⟩,hC,(by rw [hqdDa3_1]; rfl),(fP (cT_plain P)),(fP (cI_plain _)),⟨P,rfl,rfl⟩,⟨rfl,_,rfl,rfl⟩,hm,hC,(chB_true.2 hch),(fP (cT_plain P)),(fP (cT_plain P)),⟨_,_,_,_,P,_,rfl⟩,hR,(by rw [hX]; exact h0),hqdDa3_2,trivial⟩ rfl (by show 0≤1; decide) ⟨⟨nb_v _,nb_v _,nb_v _,trivial⟩,trivial,rfl⟩ (by show 0≤0; decide)) (en_eqM (r:=(.tup [(.v (.int .i64 (.ofNat 0))),(.v (Value.slice none 0 0)),(.v (.int .i64 (.ofNat 0)))])) (ys:=[]) (by rfl) (by rfl) (en_retM (by kernel_rfl) (by kernel_rfl) rfl (.inr rfl)))
 ·skip
  have ghqdDa3_1:=eqI_false hqdDa3_1
  exact absurd hE (eqI_false hqdDa3_1)
theorem dDa (n:Nat) (d q:Int) (y:Value) (P:PL) (z:Value) (C:List Int) (hE:icE n d q (cT P) P.length (cI C) C.length=0) (hC:C.length≤1000) (h0:C.length=0):GivesM pg 24 [(.agg [.v (.int .i64 n),.v (.int .i64 d),.v (.int .i64 q),.xl y P.length 3 (cT P)]),(.xl z C.length 1 (cI C))] [] ((.tup [.v (.int .i64 0),.v (.slice none 0 0),.v (.int .i64 0)])) [] :=
 givesM_parts 29 (by kernel_rfl) Try.func24 (by kernel_rfl) (by kernel_rfl) (by kernel_rfl) (fun v eb ec=>goes_less (by kernel_rfl) (by kernel_rfl) (by kernel_rfl) (by kernel_rfl) (dDa_2 n d q y P z C hE hC h0 v eb ec []))
def dD5K1:Code:=bodyC Try.f24
theorem dD5_2 (n:Nat) (d q:Int) (y:Value) (P:PL) (z:Value) (C:List Int) (hE:icE n d q (cT P) P.length (cI C) C.length=0) (hC:C.length≤1000) (h0:0 < C.length) (hv:(drV (cT P) q d (cI C) C.length n)=n) (v:BaseW) (eb:EB) (ec:EC) (hs:LN):Goes pg 29 dD5K1 ((qN3_1 C P d n q y z)) (BaseW.H (bw v 0 eb ec) hs) (OutM pg Try.f24 29 ((.tup [.v (.int .i64 0),.v (.slice none 0 0),.v (.int .i64 5)])) [] (bw v 0 eb ec)):=by
 have hcl_C:=cI_len C
 obtain ⟨hR,hch⟩:=icE_zero hE
 obtain ⟨hm,⟨ha1,ha2,ha3⟩,hp⟩:=roE_zero hR
 have hX:(flt (stM n d q y P (stC (cI C) C.length)) P.length)=C:=(flt_M hm).trans (flt_stC hch)
 rcases bE (eqI (icE n d q (cT P) P.length (cI C) C.length) 0) with hqdD53_1 | hqdD53_1
 ·skip
  have ghqdD53_1:=eqI_true hqdD53_1
  rcases bE (eqI ((drV (cT P) q d (cI (flt (stM n d q y P (stC (cI C) C.length)) P.length)) (flt (stM n d q y P (stC (cI C) C.length)) P.length).length n:Nat):Int) n) with hqdD53_2 | hqdD53_2
  ·skip
   have ghqdD53_2:=eqI_true hqdD53_2
   exact gL isR_e (gK cm (known_o5n) 200 (T':=⟨[(4,(.v (.int .i64 (.ofNat 0)))),(5,(.v (Value.slice none 0 0))),(6,(.v (.int .i64 (.ofNat 5))))],[],0,[]⟩) (e:=.ret) (m:=1) (ps:=[IsT P.length (cT P),IsC 1 C.length (cI C),C.length≤1000,(!eqI (icE n d q (cT P) P.length (cI C) C.length) 0)=false,FreeL (cT P),FreeL (cI C),IsT P.length (cT P),IsC 1 C.length (cI C),P.length≤24,C.length≤1000,chB (cI C) C.length P.length=true,FreeL (cT P),FreeL (cT P),IsRd (rdT [.v (.int .i64 n),.v (.int .i64 d),.v (.int .i64 q),AV.xl y P.length 3 (cT P)] (stC (cI C) C.length)),roE n d q (cT P) P.length=0,0 < (flt (stM n d q y P (stC (cI C) C.length)) P.length).length,(drL (cT P) q d (cI (flt (stM n d q y P (stC (cI C) C.length)) P.length)) (flt (stM n d q y P (stC (cI C) C.length)) P.length).length n).length=0,eqI ((drV (cT P) q d (cI (flt (stM n d q y P (stC (cI C) C.length)) P.length)) (flt (stM n d q y P (stC (cI C) C.length)) P.length).length n:Nat):Int) n=true]) [.go,.go,.go,.go,.go,.go,.go,.go,.go,.b false,.go,.go,.go,.go,.go,.go,.go,.go,.go,.go,.go,.b true,.go,.go,.go] (by kernel_rfl) (by kernel_rfl) ⟨⟨P,rfl,rfl⟩,⟨rfl,_,rfl,rfl⟩,hC,(by rw [hqdD53_1]; rfl),(fP (cT_plain P)),(fP (cI_plain _)),⟨P,rfl,rfl⟩,⟨rfl,_,rfl,rfl⟩,hm,hC,(chB_true.2 hch),(fP (cT_plain P)),(fP (cT_plain P)),⟨_,_,_,_,P,_,rfl⟩,hR,(by rw [hX]; exact h0),(by rw [hX]; exact drL_z hv),hqdD53_2,trivial⟩ rfl (by show 0≤1; decide) ⟨⟨nb_v _,nb_v _,nb_v _,trivial⟩,trivial,rfl⟩ (by show 0≤0; decide)) (en_eqM (r:=(.tup [(.v (.int .i64 (.ofNat 0))),(.v (Value.slice none 0 0)),(.v (.int .i64 (.ofNat 5)))])) (ys:=[]) (by rfl) (by rfl) (en_retM (by kernel_rfl) (by kernel_rfl) rfl (.inr rfl)))
  ·skip
   have ghqdD53_2:=eqI_false hqdD53_2
   exact absurd (show ((drV (cT P) q d (cI (flt (stM n d q y P (stC (cI C) C.length)) P.length)) (flt (stM n d q y P (stC (cI C) C.length)) P.length).length n:Nat):Int)=((n:Nat):Int) from by rw [hX,hv]) (eqI_false hqdD53_2)
 ·skip
  have ghqdD53_1:=eqI_false hqdD53_1
  exact absurd hE (eqI_false hqdD53_1)
theorem dD5 (n:Nat) (d q:Int) (y:Value) (P:PL) (z:Value) (C:List Int) (hE:icE n d q (cT P) P.length (cI C) C.length=0) (hC:C.length≤1000) (h0:0 < C.length) (hv:(drV (cT P) q d (cI C) C.length n)=n):GivesM pg 24 [(.agg [.v (.int .i64 n),.v (.int .i64 d),.v (.int .i64 q),.xl y P.length 3 (cT P)]),(.xl z C.length 1 (cI C))] [] ((.tup [.v (.int .i64 0),.v (.slice none 0 0),.v (.int .i64 5)])) [] :=
 givesM_parts 29 (by kernel_rfl) Try.func24 (by kernel_rfl) (by kernel_rfl) (by kernel_rfl) (fun v eb ec=>goes_less (by kernel_rfl) (by kernel_rfl) (by kernel_rfl) (by kernel_rfl) (dD5_2 n d q y P z C hE hC h0 hv v eb ec []))
def dDnK1:Code:=bodyC Try.f24
theorem dDn_2 (n:Nat) (d q:Int) (y:Value) (P:PL) (z:Value) (C:List Int) (hE:icE n d q (cT P) P.length (cI C) C.length=0) (hC:C.length≤1000) (h0:0 < C.length) (hv:(drV (cT P) q d (cI C) C.length n) < n) (hl:(drL (cT P) q d (cI C) C.length n).length=0) (v:BaseW) (eb:EB) (ec:EC) (hs:LN):Goes pg 29 dDnK1 ((qN3_1 C P d n q y z)) (BaseW.H (bw v 0 eb ec) hs) (OutM pg Try.f24 29 ((.tup [.v (.int .i64 (((drV (cT P) q d (cI C) C.length n):Nat):Int)),.v (.slice none 0 0),.v (.int .i64 0)])) [] (bw v 0 eb ec)):=by
 have hcl_C:=cI_len C
 obtain ⟨hR,hch⟩:=icE_zero hE
 obtain ⟨hm,⟨ha1,ha2,ha3⟩,hp⟩:=roE_zero hR
 have hX:(flt (stM n d q y P (stC (cI C) C.length)) P.length)=C:=(flt_M hm).trans (flt_stC hch)
 rcases bE (eqI (icE n d q (cT P) P.length (cI C) C.length) 0) with hqdDn3_1 | hqdDn3_1
 ·skip
  have ghqdDn3_1:=eqI_true hqdDn3_1
  rcases bE (eqI ((drV (cT P) q d (cI (flt (stM n d q y P (stC (cI C) C.length)) P.length)) (flt (stM n d q y P (stC (cI C) C.length)) P.length).length n:Nat):Int) n) with hqdDn3_2 | hqdDn3_2
  ·skip
   have ghqdDn3_2:=eqI_true hqdDn3_2
   exact absurd (eqI_true hqdDn3_2) (by rw [hX]; omega)
  ·skip
   have ghqdDn3_2:=eqI_false hqdDn3_2
   exact gL isR_e (gK cm (known_o5n) 200 (T':=⟨[(4,(.v (.int .i64 (((drV (cT P) q d (cI (flt (stM n d q y P (stC (cI C) C.length)) P.length)) (flt (stM n d q y P (stC (cI C) C.length)) P.length).length n:Nat):Int))))),(5,(.v (Value.slice none 0 0))),(6,(.v (.int .i64 (.ofNat 0))))],[],0,[]⟩) (e:=.ret) (m:=1) (ps:=[IsT P.length (cT P),IsC 1 C.length (cI C),C.length≤1000,(!eqI (icE n d q (cT P) P.length (cI C) C.length) 0)=false,FreeL (cT P),FreeL (cI C),IsT P.length (cT P),IsC 1 C.length (cI C),P.length≤24,C.length≤1000,chB (cI C) C.length P.length=true,FreeL (cT P),FreeL (cT P),IsRd (rdT [.v (.int .i64 n),.v (.int .i64 d),.v (.int .i64 q),AV.xl y P.length 3 (cT P)] (stC (cI C) C.length)),roE n d q (cT P) P.length=0,0 < (flt (stM n d q y P (stC (cI C) C.length)) P.length).length,(drL (cT P) q d (cI (flt (stM n d q y P (stC (cI C) C.length)) P.length)) (flt (stM n d q y P (stC (cI C) C.length)) P.length).length n).length=0,eqI ((drV (cT P) q d (cI (flt (stM n d q y P (stC (cI C) C.length)) P.length)) (flt (stM n d q y P (stC (cI C) C.length)) P.length).length n:Nat):Int) n=false]) [.go,.go,.go,.go,.go,.go,.go,.go,.go,.b false,.go,.go,.go,.go,.go,.go,.go,.go,.go,.go,.go,.b false,.go,.go,.go,.go,.go] (by kernel_rfl) (by kernel_rfl) ⟨⟨P,rfl,rfl⟩,⟨rfl,_,rfl,rfl⟩,hC,(by rw [hqdDn3_1]; rfl),(fP (cT_plain P)),(fP (cI_plain _)),⟨P,rfl,rfl⟩,⟨rfl,_,rfl,rfl⟩,hm,hC,(chB_true.2 hch),(fP (cT_plain P)),(fP (cT_plain P)),⟨_,_,_,_,P,_,rfl⟩,hR,(by rw [hX]; exact h0),(by rw [hX]; exact hl),hqdDn3_2,trivial⟩ rfl (by show 0≤1; decide) ⟨⟨nb_v _,nb_v _,nb_v _,trivial⟩,trivial,rfl⟩ (by show 0≤0; decide)) (en_eqM (r:=(.tup [(.v (.int .i64 (((drV (cT P) q d (cI (flt (stM n d q y P (stC (cI C) C.length)) P.length)) (flt (stM n d q y P (stC (cI C) C.length)) P.length).length n:Nat):Int)))),(.v (Value.slice none 0 0)),(.v (.int .i64 (.ofNat 0)))])) (ys:=[]) (by ((rw [hX]) <;> rfl)) (by rfl) (en_retM (by kernel_rfl) (by kernel_rfl) rfl (.inr rfl)))
 ·skip
  have ghqdDn3_1:=eqI_false hqdDn3_1
  exact absurd hE (eqI_false hqdDn3_1)
theorem dDn (n:Nat) (d q:Int) (y:Value) (P:PL) (z:Value) (C:List Int) (hE:icE n d q (cT P) P.length (cI C) C.length=0) (hC:C.length≤1000) (h0:0 < C.length) (hv:(drV (cT P) q d (cI C) C.length n) < n) (hl:(drL (cT P) q d (cI C) C.length n).length=0):GivesM pg 24 [(.agg [.v (.int .i64 n),.v (.int .i64 d),.v (.int .i64 q),.xl y P.length 3 (cT P)]),(.xl z C.length 1 (cI C))] [] ((.tup [.v (.int .i64 (((drV (cT P) q d (cI C) C.length n):Nat):Int)),.v (.slice none 0 0),.v (.int .i64 0)])) [] :=
 givesM_parts 29 (by kernel_rfl) Try.func24 (by kernel_rfl) (by kernel_rfl) (by kernel_rfl) (fun v eb ec=>goes_less (by kernel_rfl) (by kernel_rfl) (by kernel_rfl) (by kernel_rfl) (dDn_2 n d q y P z C hE hC h0 hv hl v eb ec []))
def dDrK1:Code:=bodyC Try.f24
theorem dDr_2 (n:Nat) (d q:Int) (y:Value) (P:PL) (z:Value) (C:List Int) (hE:icE n d q (cT P) P.length (cI C) C.length=0) (hC:C.length≤1000) (h0:0 < C.length) (hl:0 < (drL (cT P) q d (cI C) C.length n).length) (v:BaseW) (eb:EB) (ec:EC) (hs:LN):Goes pg 29 dDrK1 (⟨[(0,(.agg [.v (.int .i64 n),.v (.int .i64 d),.v (.int .i64 q),.xl y P.length 3 (cT P)])),(1,(.xl z C.length 1 (cI C)))],[],0,[]⟩) (BaseW.H (bw v 0 eb ec) hs) (OutM pg Try.f24 29 ((.tup [.v (.int .i64 (((drV (cT P) q d (cI C) C.length n):Nat):Int)),.slu 0 0 (drL (cT P) q d (cI C) C.length n).length 0,.v (.int .i64 0)])) [(.row (cI (drL (cT P) q d (cI C) C.length n)) 3 1)] (bw v 0 eb ec)):=by
 have hcl_C:=cI_len C
 obtain ⟨hR,hch⟩:=icE_zero hE
 obtain ⟨hm,⟨ha1,ha2,ha3⟩,hp⟩:=roE_zero hR
 have hX:(flt (stM n d q y P (stC (cI C) C.length)) P.length)=C:=(flt_M hm).trans (flt_stC hch)
 have hlt:=drL_lt hl
 rcases bE (eqI (icE n d q (cT P) P.length (cI C) C.length) 0) with hqdDr3_1 | hqdDr3_1
 ·skip
  have ghqdDr3_1:=eqI_true hqdDr3_1
  rcases bE (eqI ((drV (cT P) q d (cI (flt (stM n d q y P (stC (cI C) C.length)) P.length)) (flt (stM n d q y P (stC (cI C) C.length)) P.length).length n:Nat):Int) n) with hqdDr3_2 | hqdDr3_2
  ·skip
   have ghqdDr3_2:=eqI_true hqdDr3_2
   exact absurd (eqI_true hqdDr3_2) (by rw [hX]; omega)
  ·skip
   have ghqdDr3_2:=eqI_false hqdDr3_2
   exact gL isR_e (gC cm (known_o5r) 200 (T':=⟨[(4,(.v (.int .i64 (((drV (cT P) q d (cI (flt (stM n d q y P (stC (cI C) C.length)) P.length)) (flt (stM n d q y P (stC (cI C) C.length)) P.length).length n:Nat):Int))))),(5,(.slu 0 0 ((drL (cT P) q d (cI (flt (stM n d q y P (stC (cI C) C.length)) P.length)) (flt (stM n d q y P (stC (cI C) C.length)) P.length).length n).length) 0)),(6,(.v (.int .i64 (.ofNat 0))))],[],1,[(0,(.row (cI (drL (cT P) q d (cI (flt (stM n d q y P (stC (cI C) C.length)) P.length)) (flt (stM n d q y P (stC (cI C) C.length)) P.length).length n)) 3 1))]⟩) (e:=.ret) (m:=2) (ps:=[IsT P.length (cT P),IsC 1 C.length (cI C),C.length≤1000,(!eqI (icE n d q (cT P) P.length (cI C) C.length) 0)=false,FreeL (cT P),FreeL (cI C),IsT P.length (cT P),IsC 1 C.length (cI C),P.length≤24,C.length≤1000,chB (cI C) C.length P.length=true,FreeL (cT P),FreeL (cT P),IsRd (rdT [.v (.int .i64 n),.v (.int .i64 d),.v (.int .i64 q),AV.xl y P.length 3 (cT P)] (stC (cI C) C.length)),roE n d q (cT P) P.length=0,0 < (flt (stM n d q y P (stC (cI C) C.length)) P.length).length,0 < (drL (cT P) q d (cI (flt (stM n d q y P (stC (cI C) C.length)) P.length)) (flt (stM n d q y P (stC (cI C) C.length)) P.length).length n).length,eqI ((drV (cT P) q d (cI (flt (stM n d q y P (stC (cI C) C.length)) P.length)) (flt (stM n d q y P (stC (cI C) C.length)) P.length).length n:Nat):Int) n=false]) [.go,.go,.go,.go,.go,.go,.go,.go,.go,.b false,.go,.go,.go,.go,.go,.go,.go,.go,.go,.go,.go,.b false,.go,.go,.go,.go,.go] [1] [(.v (.int .i64 (((drV (cT P) q d (cI (flt (stM n d q y P (stC (cI C) C.length)) P.length)) (flt (stM n d q y P (stC (cI C) C.length)) P.length).length n:Nat):Int)))),(.slu 1 0 ((drL (cT P) q d (cI (flt (stM n d q y P (stC (cI C) C.length)) P.length)) (flt (stM n d q y P (stC (cI C) C.length)) P.length).length n).length) 0),(.v (.int .i64 (.ofNat 0)))] [(.row (cI (drL (cT P) q d (cI (flt (stM n d q y P (stC (cI C) C.length)) P.length)) (flt (stM n d q y P (stC (cI C) C.length)) P.length).length n)) 3 1)] (by kernel_rfl) (by kernel_rfl) ⟨⟨P,rfl,rfl⟩,⟨rfl,_,rfl,rfl⟩,hC,(by rw [hqdDr3_1]; rfl),(fP (cT_plain P)),(fP (cI_plain _)),⟨P,rfl,rfl⟩,⟨rfl,_,rfl,rfl⟩,hm,hC,(chB_true.2 hch),(fP (cT_plain P)),(fP (cT_plain P)),⟨_,_,_,_,P,_,rfl⟩,hR,(by rw [hX]; exact h0),(by rw [hX]; exact hl),hqdDr3_2,trivial⟩ rfl rfl (by decide) rfl ⟨nr_v _,nr_slu rfl,nr_v _,trivial⟩ ⟨⟨by show 0 < 1; decide,nrb_row (nrl_plain (cI_plain _))⟩,trivial⟩) (en_eqM (r:=(.tup [(.v (.int .i64 (((drV (cT P) q d (cI (flt (stM n d q y P (stC (cI C) C.length)) P.length)) (flt (stM n d q y P (stC (cI C) C.length)) P.length).length n:Nat):Int)))),(.slu 0 0 ((drL (cT P) q d (cI (flt (stM n d q y P (stC (cI C) C.length)) P.length)) (flt (stM n d q y P (stC (cI C) C.length)) P.length).length n).length) 0),(.v (.int .i64 (.ofNat 0)))])) (ys:=[(.row (cI (drL (cT P) q d (cI (flt (stM n d q y P (stC (cI C) C.length)) P.length)) (flt (stM n d q y P (stC (cI C) C.length)) P.length).length n)) 3 1)]) (by ((rw [hX]) <;> rfl)) (by rw [hX]) (en_retM (by kernel_rfl) (by kernel_rfl) rfl (.inr rfl)))
 ·skip
  have ghqdDr3_1:=eqI_false hqdDr3_1
  exact absurd hE (eqI_false hqdDr3_1)
theorem dDr (n:Nat) (d q:Int) (y:Value) (P:PL) (z:Value) (C:List Int) (hE:icE n d q (cT P) P.length (cI C) C.length=0) (hC:C.length≤1000) (h0:0 < C.length) (hl:0 < (drL (cT P) q d (cI C) C.length n).length):GivesM pg 24 [(.agg [.v (.int .i64 n),.v (.int .i64 d),.v (.int .i64 q),.xl y P.length 3 (cT P)]),(.xl z C.length 1 (cI C))] [] ((.tup [.v (.int .i64 (((drV (cT P) q d (cI C) C.length n):Nat):Int)),.slu 0 0 (drL (cT P) q d (cI C) C.length n).length 0,.v (.int .i64 0)])) [(.row (cI (drL (cT P) q d (cI C) C.length n)) 3 1)] :=
 givesM_parts 29 (by kernel_rfl) Try.func24 (by kernel_rfl) (by kernel_rfl) (by kernel_rfl) (fun v eb ec=>goes_less (by kernel_rfl) (by kernel_rfl) (by kernel_rfl) (by kernel_rfl) (dDr_2 n d q y P z C hE hC h0 hl v eb ec []))
theorem ocd (n d q:Int) (y:Value) (P:PL) (z:Value) (C:List Int) (p:Int) (z0:Value) (D:List Int) (hC:C.length≤1000) (hD:D.length≤1000):GivesA pg 22 [(.agg [.v (.int .i64 n),.v (.int .i64 d),.v (.int .i64 q),.xl y P.length 3 (cT P)]),(.xl z C.length 1 (cI C)),(.v (.int .i64 p)),(.xl z0 D.length 1 (cI D))] (.int .i64 (cdE n d q (cT P) P.length (cI C) C.length p (cI D) D.length)):=by
 by_cases hE:icE n d q (cT P) P.length (cI C) C.length=0
 ·obtain ⟨n,rfl⟩:∃ k:Nat,n=((k:Nat):Int):=⟨n.toNat,by have h9:=(roE_zero (icE_zero hE).1).2.1.1; omega⟩
  exact odg n d q y P z C p z0 D hE hC hD
 ·exact odb n d q y P z C p z0 D hE hC hD
theorem rcd (n d q:Int) (y:Value) (P:PL) (z:Value) (C:List Int) (p:Int) (z0:Value) (D:List Int) (hC:C.length≤1000) (hD:D.length≤1000):GivesA pg 23 [(.agg [.v (.int .i64 n),.v (.int .i64 d),.v (.int .i64 q),.xl y P.length 3 (cT P)]),(.xl z C.length 1 (cI C)),(.v (.int .i64 p)),(.xl z0 D.length 1 (cI D))] (.int .i64 (cdE n d q (cT P) P.length (cI C) C.length p (cI D) D.length)):=by
 by_cases hE:icE n d q (cT P) P.length (cI C) C.length=0
 ·obtain ⟨n,rfl⟩:∃ k:Nat,n=((k:Nat):Int):=⟨n.toNat,by have h9:=(roE_zero (icE_zero hE).1).2.1.1; omega⟩
  exact rdg n d q y P z C p z0 D hE hC hD
 ·exact rdb n d q y P z C p z0 D hE hC hD
theorem takeL {L:List Int}:List.take (L.length * 1) (List.drop 0 (cI L))=cI L:=by
 rw [List.drop_zero,List.take_of_length_le (by rw [cI_len]; omega)]
theorem dk_nil {n m:Nat} {d q:Int} {c:List AV} {C:List Int} (hE:icE n d q c m (cI C) C.length=0) (hlt:drV c q d (cI C) C.length n < n) (hl:(drL c q d (cI C) C.length n).length=0):cdE n d q c m (cI C) C.length ((drV c q d (cI C) C.length n:Nat):Int) [] 0=0:=by
 have h:=dk_ok hE hlt
 rw [List.eq_nil_of_length_eq_zero hl] at h
 exact h
theorem dk_z {n m:Nat} {d q:Int} {c:List AV} {C:List Int} (hE:icE n d q c m (cI C) C.length=0) (h0:C.length=0):cdE n d q c m (cI C) C.length 0 [] 0=0:=by
 obtain ⟨-,⟨h1,h2,h3⟩,-⟩:=roE_zero (icE_zero hE).1
 have hv:=drV_z (c:=c) (q:=q) (n:=n) h0 (by omega) (show 0≤d by omega)
 have h:=dk_nil hE (by rw [hv]; omega) (by have:=drL_le (n:=n) (d:=d) (q:=q) (c:=c) (C:=C); omega)
 rw [hv] at h
 exact h
end
end Go.Proofs.Ytnphldmnakbknaa
