import Derived.Test.YtnphldmnakbknaaK7
import Derived.Test.YtnphldmnakbknaaK8
import Derived.Test.YtnphldmnakbknaaI1
import Derived.Test.YtnphldmnakbknaaJ2
set_option maxHeartbeats 2000000
set_option linter.all false
/- Mathematics of Dark's proof. -/
namespace Go.Proofs.Ytnphldmnakbknaa
open Go Ev
noncomputable section
section
variable (C : List Int) (P : List (Int × Int × Int)) (d nI q : Int)
@[reducible] def qN3_1:=(icE nI d q (cT P) P.length (cI C) C.length)
end
theorem ll_take {c:List AV} {q:Int} {C:List Int} {j:Nat}:∀ {i:Nat},i≤C.length→llF c q (cI C) j i=(C.take i).filter (fun x=>lgB c q x.toNat j)
 | 0,_=>rfl
 | i + 1,h=>by
  have ih:=ll_take (c:=c) (q:=q) (C:=C) (j:=j) (i:=i) (by omega)
  have e:intAt (cI C) (0 + i * 1)=C[i]:=by rw [Nat.zero_add,Nat.mul_one]; exact cI_int (by omega)
  rw [llF,e,ih,List.take_succ_eq_append_getElem (show i < C.length by omega),List.filter_append]
  have e1:List.filter (fun x=>lgB c q x.toNat j) [C[i]]=if lgB c q C[i].toNat j=true then [C[i]] else []:=by
   simp only [List.filter_cons,List.filter_nil]
  rw [e1]
  by_cases hl:lgB c q C[i].toNat j=true
  ·rw [if_pos hl,if_pos hl]
  ·rw [if_neg hl,if_neg hl,List.append_nil]
theorem ll_filter {c:List AV} {q:Int} {C:List Int} {j:Nat}:llF c q (cI C) j C.length=C.filter (fun x=>lgB c q x.toNat j):=by
 rw [ll_take (Nat.le_refl _),List.take_of_length_le (Nat.le_refl _)]
theorem inB_mem {L:List Int} {x:Int}:inB (cI L) L.length x=true↔x∈L:=by
 rw [inB_true]
 constructor
 ·rintro ⟨i,hi,e⟩
  rw [← e,Nat.mul_one,cI_int hi]
  exact List.getElem_mem hi
 ·intro h
  obtain ⟨i,hi,e⟩:=List.getElem_of_mem h
  exact ⟨i,hi,by rw [Nat.mul_one,cI_int hi]; exact e⟩
theorem ch_pair {C:List Int} {m:Int} (h:chP (cI C) C.length m):C.Pairwise (· < ·):=List.pairwise_iff_getElem.2 (fun i j hi hj hij=>by
 have:=chP_lt h i j hij hj
 rw [Nat.mul_one,Nat.mul_one,cI_int hi,cI_int hj] at this
 exact this)
theorem inc_pair {L:List Int} (h:L.Pairwise (· < ·)):incB (cI L) L.length=true:=incB_true.2 (fun i hi=>by
 rw [Nat.mul_one,Nat.mul_one,cI_int (show i < L.length by omega),cI_int hi]
 exact List.pairwise_iff_getElem.1 h i (i + 1) (by omega) hi (by omega))
section
variable {n m : Nat} {d q : Int} {c : List AV} {C : List Int}
theorem drL_lt (h:0 < (drL c q d (cI C) C.length n).length):drV c q d (cI C) C.length n < n:=by
 unfold drL at h
 split at h
 ·assumption
 ·simp at h
theorem drL_le:(drL c q d (cI C) C.length n).length≤C.length:=by
 unfold drL
 split
 ·rw [ll_filter]; exact List.length_filter_le _ _
 ·exact Nat.zero_le _
theorem drV_z (h:C.length=0) (hn:1≤n) (hd:0≤d):drV c q d (cI C) C.length n=0:=(dr_at (i:=0) (fun j hj=>by omega) (by rw [h]; exact hd) (by omega)).1
theorem drL_z (h:drV c q d (cI C) C.length n=n):(drL c q d (cI C) C.length n).length=0:=by
 unfold drL
 rw [h,if_neg (Nat.lt_irrefl _)]
 rfl
theorem dk_ok (hE:icE n d q c m (cI C) C.length=0) (hlt:drV c q d (cI C) C.length n < n):cdE n d q c m (cI C) C.length ((drV c q d (cI C) C.length n:Nat):Int) (cI (drL c q d (cI C) C.length n)) (drL c q d (cI C) C.length n).length=0:=by
 obtain ⟨-,hch⟩:=icE_zero hE
 have hL:drL c q d (cI C) C.length n=C.filter (fun x=>lgB c q x.toNat (drV c q d (cI C) C.length n)):=by
  unfold drL
  rw [if_pos hlt,ll_filter]
 have hd:litF c q (cI C) C.length (drV c q d (cI C) C.length n)≤d:=of_decide_eq_true (fst_lt (f:=dkB c q d (cI C) C.length) hlt).1
 have hlen:(((drL c q d (cI C) C.length n).length:Nat):Int)≤d:=by
  rw [hL,← ll_filter,ll_len]
  exact hd
 generalize drL c q d (cI C) C.length n=L at *
 generalize drV c q d (cI C) C.length n=p at *
 refine cdE_ok hE ⟨⟨by omega,by omega⟩,hlen,inc_pair (by rw [hL]; exact (ch_pair hch).filter _),fun i hi=>?_⟩ (lvB_no ?_)
 ·rw [Nat.mul_one,cI_int hi]
  refine inB_mem.2 ?_
  have h9:∀ x,x∈L→x∈C:=fun x hx=>by
   rw [hL] at hx
   exact (List.mem_filter.1 hx).1
  exact h9 _ (List.getElem_mem hi)
 ·rintro ⟨i,hi,hn,hl⟩
  rw [Nat.mul_one,cI_int hi] at hn hl
  have h9:C[i]∈L:=by
   rw [hL]
   exact List.mem_filter.2 ⟨List.getElem_mem hi,lgB_true.2 hl⟩
  rw [inB_mem.2 h9] at hn
  cases hn
end
def o5a:OrcH:=orO (orO ckO nrO) dkOa
theorem known_o5a:Known Try.prog (clsO o5a):=known_or (known_or known_ck known_nr) known_dka
def o5n:OrcH:=orO (orO ckO nrO) dkOn
theorem known_o5n:Known Try.prog (clsO o5n):=known_or (known_or known_ck known_nr) known_dkn
def o5r:OrcH:=orO (orO ckO nrO) dkOr
theorem known_o5r:Known Try.prog (clsO o5r):=known_or (known_or known_ck known_nr) known_dkr
noncomputable def dDbK1:Code:=bodyC Try.f24
theorem dDb_2 (nI d q:Int) (y:Value) (P:List (Int×Int×Int)) (z:Value) (C:List Int) (hE:¬ icE nI d q (cT P) P.length (cI C) C.length=0) (hC:C.length≤1000) (v:BaseW) (eb:Nat→Option Nat) (ec:Nat→Nat) (hs:List Nat):Goes Try.prog 29 dDbK1 (⟨[(0,(.agg [.v (.int .i64 nI),.v (.int .i64 d),.v (.int .i64 q),.xl y P.length 3 (cT P)])),(1,(.xl z C.length 1 (cI C)))],[],0,[]⟩) (BaseW.H (bw v 0 eb ec) hs) (OutM Try.prog Try.f24 29 ((.tup [.v (.int .i64 0),.v (.slice none 0 0),.v (.int .i64 (qN3_1 C P d nI q))])) [] (bw v 0 eb ec)):=by
 have hcl_C:=cI_len C
 rcases Bool.eq_false_or_eq_true (eqI (qN3_1 C P d nI q) 0) with hqdDb3_1 | hqdDb3_1
 ·skip
  have ghqdDb3_1:=eqI_true hqdDb3_1
  rcases Bool.eq_false_or_eq_true (eqI 0 nI) with hqdDb3_2 | hqdDb3_2
  ·skip
   have ghqdDb3_2:=eqI_true hqdDb3_2
   exact absurd (eqI_true hqdDb3_1) hE
  ·skip
   have ghqdDb3_2:=eqI_false hqdDb3_2
   exact absurd (eqI_true hqdDb3_1) hE
 ·skip
  have ghqdDb3_1:=eqI_false hqdDb3_1
  exact goes_leafA isR_e (goes_cut Try.checked.mixed (known_o5a) 200 (T':=⟨[(4,(.v (.int .i64 (.ofNat 0)))),(5,(.v (Value.slice none 0 0))),(6,(.v (.int .i64 (qN3_1 C P d nI q))))],[],0,[]⟩) (e:=.ret) (m:=1) (ps:=[IsT P.length (cT P),IsC 1 C.length (cI C),C.length≤1000,(!eqI (qN3_1 C P d nI q) 0)=true]) [.go,.go,.go,.go,.go,.go,.go,.go,.go,.b true,.go,.go,.go,.go] (by kernel_rfl) (by kernel_rfl) ⟨⟨P,rfl,rfl⟩,⟨rfl,_,rfl,rfl⟩,hC,(by rw [hqdDb3_1]; rfl),trivial⟩ rfl (by show 0≤1; decide) ⟨⟨nb_v _,nb_v _,nb_v _,trivial⟩,trivial,rfl⟩ (by show 0≤0; decide)) (en_eqM (r:=(.tup [(.v (.int .i64 (.ofNat 0))),(.v (Value.slice none 0 0)),(.v (.int .i64 (qN3_1 C P d nI q)))])) (ys:=[]) (by rfl) (by rfl) (en_retM (by kernel_rfl) (by kernel_rfl) rfl (.inr rfl)))
theorem dDb (nI d q:Int) (y:Value) (P:List (Int×Int×Int)) (z:Value) (C:List Int) (hE:¬ icE nI d q (cT P) P.length (cI C) C.length=0) (hC:C.length≤1000):GivesM Try.prog 24 [(.agg [.v (.int .i64 nI),.v (.int .i64 d),.v (.int .i64 q),.xl y P.length 3 (cT P)]),(.xl z C.length 1 (cI C))] [] ((.tup [.v (.int .i64 0),.v (.slice none 0 0),.v (.int .i64 (qN3_1 C P d nI q))])) [] :=
 givesM_parts 29 (by kernel_rfl) Try.func24 (by kernel_rfl) (by kernel_rfl) (by kernel_rfl) (fun v eb ec=>goes_less (by kernel_rfl) (by kernel_rfl) (by kernel_rfl) (by kernel_rfl) (dDb_2 nI d q y P z C hE hC v eb ec []))
noncomputable def dDaK1:Code:=bodyC Try.f24
theorem dDa_2 (n:Nat) (d q:Int) (y:Value) (P:List (Int×Int×Int)) (z:Value) (C:List Int) (hE:icE n d q (cT P) P.length (cI C) C.length=0) (hC:C.length≤1000) (h0:C.length=0) (v:BaseW) (eb:Nat→Option Nat) (ec:Nat→Nat) (hs:List Nat):Goes Try.prog 29 dDaK1 (⟨[(0,(.agg [.v (.int .i64 n),.v (.int .i64 d),.v (.int .i64 q),.xl y P.length 3 (cT P)])),(1,(.xl z C.length 1 (cI C)))],[],0,[]⟩) (BaseW.H (bw v 0 eb ec) hs) (OutM Try.prog Try.f24 29 ((.tup [.v (.int .i64 0),.v (.slice none 0 0),.v (.int .i64 0)])) [] (bw v 0 eb ec)):=by
 have hcl_C:=cI_len C
 obtain ⟨hR,hch⟩:=icE_zero hE
 obtain ⟨hm,⟨ha1,ha2,ha3⟩,hp⟩:=roE_zero hR
 have hX:(flt (stM n d q y P (stC (cI C) C.length)) P.length)=C:=(flt_M hm).trans (flt_stC hch)
 rcases Bool.eq_false_or_eq_true (eqI (icE n d q (cT P) P.length (cI C) C.length) 0) with hqdDa3_1 | hqdDa3_1
 ·skip
  have ghqdDa3_1:=eqI_true hqdDa3_1
  rcases Bool.eq_false_or_eq_true (eqI 0 n) with hqdDa3_2 | hqdDa3_2
  ·skip
   have ghqdDa3_2:=eqI_true hqdDa3_2
   exact absurd (eqI_true hqdDa3_2) (by omega)
  ·skip
   have ghqdDa3_2:=eqI_false hqdDa3_2
   exact goes_leafA isR_e (goes_cut Try.checked.mixed (known_o5a) 200 (T':=⟨[(4,(.v (.int .i64 (.ofNat 0)))),(5,(.v (Value.slice none 0 0))),(6,(.v (.int .i64 (.ofNat 0))))],[],0,[]⟩) (e:=.ret) (m:=1) (ps:=[IsT P.length (cT P),IsC 1 C.length (cI C),C.length≤1000,(!eqI (icE n d q (cT P) P.length (cI C) C.length) 0)=false,FreeL (cT P),FreeL (cI C),IsT P.length (cT P),IsC 1 C.length (cI C),P.length≤24,C.length≤1000,chB (cI C) C.length P.length=true,FreeL (cT P),FreeL (cT P),IsRd (rdT [AV.v (Value.int IntKind.i64 n),AV.v (Value.int IntKind.i64 d),AV.v (Value.int IntKind.i64 q),AV.xl y P.length 3 (cT P)] (stC (cI C) C.length)),roE n d q (cT P) P.length=0,(flt (stM n d q y P (stC (cI C) C.length)) P.length).length=0,eqI 0 n=false]) [.go,.go,.go,.go,.go,.go,.go,.go,.go,.b false,.go,.go,.go,.go,.go,.go,.go,.go,.go,.go,.go,.b false,.go,.go,.go,.go,.go] (by kernel_rfl) (by kernel_rfl) ⟨⟨P,rfl,rfl⟩,⟨rfl,_,rfl,rfl⟩,hC,(by rw [hqdDa3_1]; rfl),(freeL_plain (cT_plain P)),(freeL_plain (cI_plain _)),⟨P,rfl,rfl⟩,⟨rfl,_,rfl,rfl⟩,hm,hC,(chB_true.2 hch),(freeL_plain (cT_plain P)),(freeL_plain (cT_plain P)),⟨_,_,_,_,P,_,rfl⟩,hR,(by rw [hX]; exact h0),hqdDa3_2,trivial⟩ rfl (by show 0≤1; decide) ⟨⟨nb_v _,nb_v _,nb_v _,trivial⟩,trivial,rfl⟩ (by show 0≤0; decide)) (en_eqM (r:=(.tup [(.v (.int .i64 (.ofNat 0))),(.v (Value.slice none 0 0)),(.v (.int .i64 (.ofNat 0)))])) (ys:=[]) (by rfl) (by rfl) (en_retM (by kernel_rfl) (by kernel_rfl) rfl (.inr rfl)))
 ·skip
  have ghqdDa3_1:=eqI_false hqdDa3_1
  exact absurd hE (eqI_false hqdDa3_1)
theorem dDa (n:Nat) (d q:Int) (y:Value) (P:List (Int×Int×Int)) (z:Value) (C:List Int) (hE:icE n d q (cT P) P.length (cI C) C.length=0) (hC:C.length≤1000) (h0:C.length=0):GivesM Try.prog 24 [(.agg [.v (.int .i64 n),.v (.int .i64 d),.v (.int .i64 q),.xl y P.length 3 (cT P)]),(.xl z C.length 1 (cI C))] [] ((.tup [.v (.int .i64 0),.v (.slice none 0 0),.v (.int .i64 0)])) [] :=
 givesM_parts 29 (by kernel_rfl) Try.func24 (by kernel_rfl) (by kernel_rfl) (by kernel_rfl) (fun v eb ec=>goes_less (by kernel_rfl) (by kernel_rfl) (by kernel_rfl) (by kernel_rfl) (dDa_2 n d q y P z C hE hC h0 v eb ec []))
noncomputable def dD5K1:Code:=bodyC Try.f24
theorem dD5_2 (n:Nat) (d q:Int) (y:Value) (P:List (Int×Int×Int)) (z:Value) (C:List Int) (hE:icE n d q (cT P) P.length (cI C) C.length=0) (hC:C.length≤1000) (h0:0 < C.length) (hv:(drV (cT P) q d (cI C) C.length n)=n) (v:BaseW) (eb:Nat→Option Nat) (ec:Nat→Nat) (hs:List Nat):Goes Try.prog 29 dD5K1 (⟨[(0,(.agg [.v (.int .i64 n),.v (.int .i64 d),.v (.int .i64 q),.xl y P.length 3 (cT P)])),(1,(.xl z C.length 1 (cI C)))],[],0,[]⟩) (BaseW.H (bw v 0 eb ec) hs) (OutM Try.prog Try.f24 29 ((.tup [.v (.int .i64 0),.v (.slice none 0 0),.v (.int .i64 5)])) [] (bw v 0 eb ec)):=by
 have hcl_C:=cI_len C
 obtain ⟨hR,hch⟩:=icE_zero hE
 obtain ⟨hm,⟨ha1,ha2,ha3⟩,hp⟩:=roE_zero hR
 have hX:(flt (stM n d q y P (stC (cI C) C.length)) P.length)=C:=(flt_M hm).trans (flt_stC hch)
 rcases Bool.eq_false_or_eq_true (eqI (icE n d q (cT P) P.length (cI C) C.length) 0) with hqdD53_1 | hqdD53_1
 ·skip
  have ghqdD53_1:=eqI_true hqdD53_1
  rcases Bool.eq_false_or_eq_true (eqI ((drV (cT P) q d (cI (flt (stM n d q y P (stC (cI C) C.length)) P.length)) (flt (stM n d q y P (stC (cI C) C.length)) P.length).length n:Nat):Int) n) with hqdD53_2 | hqdD53_2
  ·skip
   have ghqdD53_2:=eqI_true hqdD53_2
   exact goes_leafA isR_e (goes_cut Try.checked.mixed (known_o5n) 200 (T':=⟨[(4,(.v (.int .i64 (.ofNat 0)))),(5,(.v (Value.slice none 0 0))),(6,(.v (.int .i64 (.ofNat 5))))],[],0,[]⟩) (e:=.ret) (m:=1) (ps:=[IsT P.length (cT P),IsC 1 C.length (cI C),C.length≤1000,(!eqI (icE n d q (cT P) P.length (cI C) C.length) 0)=false,FreeL (cT P),FreeL (cI C),IsT P.length (cT P),IsC 1 C.length (cI C),P.length≤24,C.length≤1000,chB (cI C) C.length P.length=true,FreeL (cT P),FreeL (cT P),IsRd (rdT [AV.v (Value.int IntKind.i64 n),AV.v (Value.int IntKind.i64 d),AV.v (Value.int IntKind.i64 q),AV.xl y P.length 3 (cT P)] (stC (cI C) C.length)),roE n d q (cT P) P.length=0,0 < (flt (stM n d q y P (stC (cI C) C.length)) P.length).length,(drL (cT P) q d (cI (flt (stM n d q y P (stC (cI C) C.length)) P.length)) (flt (stM n d q y P (stC (cI C) C.length)) P.length).length n).length=0,eqI ((drV (cT P) q d (cI (flt (stM n d q y P (stC (cI C) C.length)) P.length)) (flt (stM n d q y P (stC (cI C) C.length)) P.length).length n:Nat):Int) n=true]) [.go,.go,.go,.go,.go,.go,.go,.go,.go,.b false,.go,.go,.go,.go,.go,.go,.go,.go,.go,.go,.go,.b true,.go,.go,.go] (by kernel_rfl) (by kernel_rfl) ⟨⟨P,rfl,rfl⟩,⟨rfl,_,rfl,rfl⟩,hC,(by rw [hqdD53_1]; rfl),(freeL_plain (cT_plain P)),(freeL_plain (cI_plain _)),⟨P,rfl,rfl⟩,⟨rfl,_,rfl,rfl⟩,hm,hC,(chB_true.2 hch),(freeL_plain (cT_plain P)),(freeL_plain (cT_plain P)),⟨_,_,_,_,P,_,rfl⟩,hR,(by rw [hX]; exact h0),(by rw [hX]; exact drL_z hv),hqdD53_2,trivial⟩ rfl (by show 0≤1; decide) ⟨⟨nb_v _,nb_v _,nb_v _,trivial⟩,trivial,rfl⟩ (by show 0≤0; decide)) (en_eqM (r:=(.tup [(.v (.int .i64 (.ofNat 0))),(.v (Value.slice none 0 0)),(.v (.int .i64 (.ofNat 5)))])) (ys:=[]) (by rfl) (by rfl) (en_retM (by kernel_rfl) (by kernel_rfl) rfl (.inr rfl)))
  ·skip
   have ghqdD53_2:=eqI_false hqdD53_2
   exact absurd (show ((drV (cT P) q d (cI (flt (stM n d q y P (stC (cI C) C.length)) P.length)) (flt (stM n d q y P (stC (cI C) C.length)) P.length).length n:Nat):Int)=((n:Nat):Int) from by rw [hX,hv]) (eqI_false hqdD53_2)
 ·skip
  have ghqdD53_1:=eqI_false hqdD53_1
  exact absurd hE (eqI_false hqdD53_1)
theorem dD5 (n:Nat) (d q:Int) (y:Value) (P:List (Int×Int×Int)) (z:Value) (C:List Int) (hE:icE n d q (cT P) P.length (cI C) C.length=0) (hC:C.length≤1000) (h0:0 < C.length) (hv:(drV (cT P) q d (cI C) C.length n)=n):GivesM Try.prog 24 [(.agg [.v (.int .i64 n),.v (.int .i64 d),.v (.int .i64 q),.xl y P.length 3 (cT P)]),(.xl z C.length 1 (cI C))] [] ((.tup [.v (.int .i64 0),.v (.slice none 0 0),.v (.int .i64 5)])) [] :=
 givesM_parts 29 (by kernel_rfl) Try.func24 (by kernel_rfl) (by kernel_rfl) (by kernel_rfl) (fun v eb ec=>goes_less (by kernel_rfl) (by kernel_rfl) (by kernel_rfl) (by kernel_rfl) (dD5_2 n d q y P z C hE hC h0 hv v eb ec []))
noncomputable def dDnK1:Code:=bodyC Try.f24
theorem dDn_2 (n:Nat) (d q:Int) (y:Value) (P:List (Int×Int×Int)) (z:Value) (C:List Int) (hE:icE n d q (cT P) P.length (cI C) C.length=0) (hC:C.length≤1000) (h0:0 < C.length) (hv:(drV (cT P) q d (cI C) C.length n) < n) (hl:(drL (cT P) q d (cI C) C.length n).length=0) (v:BaseW) (eb:Nat→Option Nat) (ec:Nat→Nat) (hs:List Nat):Goes Try.prog 29 dDnK1 (⟨[(0,(.agg [.v (.int .i64 n),.v (.int .i64 d),.v (.int .i64 q),.xl y P.length 3 (cT P)])),(1,(.xl z C.length 1 (cI C)))],[],0,[]⟩) (BaseW.H (bw v 0 eb ec) hs) (OutM Try.prog Try.f24 29 ((.tup [.v (.int .i64 (((drV (cT P) q d (cI C) C.length n):Nat):Int)),.v (.slice none 0 0),.v (.int .i64 0)])) [] (bw v 0 eb ec)):=by
 have hcl_C:=cI_len C
 obtain ⟨hR,hch⟩:=icE_zero hE
 obtain ⟨hm,⟨ha1,ha2,ha3⟩,hp⟩:=roE_zero hR
 have hX:(flt (stM n d q y P (stC (cI C) C.length)) P.length)=C:=(flt_M hm).trans (flt_stC hch)
 rcases Bool.eq_false_or_eq_true (eqI (icE n d q (cT P) P.length (cI C) C.length) 0) with hqdDn3_1 | hqdDn3_1
 ·skip
  have ghqdDn3_1:=eqI_true hqdDn3_1
  rcases Bool.eq_false_or_eq_true (eqI ((drV (cT P) q d (cI (flt (stM n d q y P (stC (cI C) C.length)) P.length)) (flt (stM n d q y P (stC (cI C) C.length)) P.length).length n:Nat):Int) n) with hqdDn3_2 | hqdDn3_2
  ·skip
   have ghqdDn3_2:=eqI_true hqdDn3_2
   exact absurd (eqI_true hqdDn3_2) (by rw [hX]; omega)
  ·skip
   have ghqdDn3_2:=eqI_false hqdDn3_2
   exact goes_leafA isR_e (goes_cut Try.checked.mixed (known_o5n) 200 (T':=⟨[(4,(.v (.int .i64 (((drV (cT P) q d (cI (flt (stM n d q y P (stC (cI C) C.length)) P.length)) (flt (stM n d q y P (stC (cI C) C.length)) P.length).length n:Nat):Int))))),(5,(.v (Value.slice none 0 0))),(6,(.v (.int .i64 (.ofNat 0))))],[],0,[]⟩) (e:=.ret) (m:=1) (ps:=[IsT P.length (cT P),IsC 1 C.length (cI C),C.length≤1000,(!eqI (icE n d q (cT P) P.length (cI C) C.length) 0)=false,FreeL (cT P),FreeL (cI C),IsT P.length (cT P),IsC 1 C.length (cI C),P.length≤24,C.length≤1000,chB (cI C) C.length P.length=true,FreeL (cT P),FreeL (cT P),IsRd (rdT [AV.v (Value.int IntKind.i64 n),AV.v (Value.int IntKind.i64 d),AV.v (Value.int IntKind.i64 q),AV.xl y P.length 3 (cT P)] (stC (cI C) C.length)),roE n d q (cT P) P.length=0,0 < (flt (stM n d q y P (stC (cI C) C.length)) P.length).length,(drL (cT P) q d (cI (flt (stM n d q y P (stC (cI C) C.length)) P.length)) (flt (stM n d q y P (stC (cI C) C.length)) P.length).length n).length=0,eqI ((drV (cT P) q d (cI (flt (stM n d q y P (stC (cI C) C.length)) P.length)) (flt (stM n d q y P (stC (cI C) C.length)) P.length).length n:Nat):Int) n=false]) [.go,.go,.go,.go,.go,.go,.go,.go,.go,.b false,.go,.go,.go,.go,.go,.go,.go,.go,.go,.go,.go,.b false,.go,.go,.go,.go,.go] (by kernel_rfl) (by kernel_rfl) ⟨⟨P,rfl,rfl⟩,⟨rfl,_,rfl,rfl⟩,hC,(by rw [hqdDn3_1]; rfl),(freeL_plain (cT_plain P)),(freeL_plain (cI_plain _)),⟨P,rfl,rfl⟩,⟨rfl,_,rfl,rfl⟩,hm,hC,(chB_true.2 hch),(freeL_plain (cT_plain P)),(freeL_plain (cT_plain P)),⟨_,_,_,_,P,_,rfl⟩,hR,(by rw [hX]; exact h0),(by rw [hX]; exact hl),hqdDn3_2,trivial⟩ rfl (by show 0≤1; decide) ⟨⟨nb_v _,nb_v _,nb_v _,trivial⟩,trivial,rfl⟩ (by show 0≤0; decide)) (en_eqM (r:=(.tup [(.v (.int .i64 (((drV (cT P) q d (cI (flt (stM n d q y P (stC (cI C) C.length)) P.length)) (flt (stM n d q y P (stC (cI C) C.length)) P.length).length n:Nat):Int)))),(.v (Value.slice none 0 0)),(.v (.int .i64 (.ofNat 0)))])) (ys:=[]) (by ((rw [hX]) <;> rfl)) (by rfl) (en_retM (by kernel_rfl) (by kernel_rfl) rfl (.inr rfl)))
 ·skip
  have ghqdDn3_1:=eqI_false hqdDn3_1
  exact absurd hE (eqI_false hqdDn3_1)
theorem dDn (n:Nat) (d q:Int) (y:Value) (P:List (Int×Int×Int)) (z:Value) (C:List Int) (hE:icE n d q (cT P) P.length (cI C) C.length=0) (hC:C.length≤1000) (h0:0 < C.length) (hv:(drV (cT P) q d (cI C) C.length n) < n) (hl:(drL (cT P) q d (cI C) C.length n).length=0):GivesM Try.prog 24 [(.agg [.v (.int .i64 n),.v (.int .i64 d),.v (.int .i64 q),.xl y P.length 3 (cT P)]),(.xl z C.length 1 (cI C))] [] ((.tup [.v (.int .i64 (((drV (cT P) q d (cI C) C.length n):Nat):Int)),.v (.slice none 0 0),.v (.int .i64 0)])) [] :=
 givesM_parts 29 (by kernel_rfl) Try.func24 (by kernel_rfl) (by kernel_rfl) (by kernel_rfl) (fun v eb ec=>goes_less (by kernel_rfl) (by kernel_rfl) (by kernel_rfl) (by kernel_rfl) (dDn_2 n d q y P z C hE hC h0 hv hl v eb ec []))
noncomputable def dDrK1:Code:=bodyC Try.f24
theorem dDr_2 (n:Nat) (d q:Int) (y:Value) (P:List (Int×Int×Int)) (z:Value) (C:List Int) (hE:icE n d q (cT P) P.length (cI C) C.length=0) (hC:C.length≤1000) (h0:0 < C.length) (hl:0 < (drL (cT P) q d (cI C) C.length n).length) (v:BaseW) (eb:Nat→Option Nat) (ec:Nat→Nat) (hs:List Nat):Goes Try.prog 29 dDrK1 (⟨[(0,(.agg [.v (.int .i64 n),.v (.int .i64 d),.v (.int .i64 q),.xl y P.length 3 (cT P)])),(1,(.xl z C.length 1 (cI C)))],[],0,[]⟩) (BaseW.H (bw v 0 eb ec) hs) (OutM Try.prog Try.f24 29 ((.tup [.v (.int .i64 (((drV (cT P) q d (cI C) C.length n):Nat):Int)),.slu 0 0 (drL (cT P) q d (cI C) C.length n).length 0,.v (.int .i64 0)])) [(.row (cI (drL (cT P) q d (cI C) C.length n)) 3 1)] (bw v 0 eb ec)):=by
 have hcl_C:=cI_len C
 obtain ⟨hR,hch⟩:=icE_zero hE
 obtain ⟨hm,⟨ha1,ha2,ha3⟩,hp⟩:=roE_zero hR
 have hX:(flt (stM n d q y P (stC (cI C) C.length)) P.length)=C:=(flt_M hm).trans (flt_stC hch)
 have hlt:=drL_lt hl
 rcases Bool.eq_false_or_eq_true (eqI (icE n d q (cT P) P.length (cI C) C.length) 0) with hqdDr3_1 | hqdDr3_1
 ·skip
  have ghqdDr3_1:=eqI_true hqdDr3_1
  rcases Bool.eq_false_or_eq_true (eqI ((drV (cT P) q d (cI (flt (stM n d q y P (stC (cI C) C.length)) P.length)) (flt (stM n d q y P (stC (cI C) C.length)) P.length).length n:Nat):Int) n) with hqdDr3_2 | hqdDr3_2
  ·skip
   have ghqdDr3_2:=eqI_true hqdDr3_2
   exact absurd (eqI_true hqdDr3_2) (by rw [hX]; omega)
  ·skip
   have ghqdDr3_2:=eqI_false hqdDr3_2
   exact goes_leafA isR_e (goes_cutR Try.checked.mixed (known_o5r) 200 (T':=⟨[(4,(.v (.int .i64 (((drV (cT P) q d (cI (flt (stM n d q y P (stC (cI C) C.length)) P.length)) (flt (stM n d q y P (stC (cI C) C.length)) P.length).length n:Nat):Int))))),(5,(.slu 0 0 ((drL (cT P) q d (cI (flt (stM n d q y P (stC (cI C) C.length)) P.length)) (flt (stM n d q y P (stC (cI C) C.length)) P.length).length n).length) 0)),(6,(.v (.int .i64 (.ofNat 0))))],[],1,[(0,(.row (cI (drL (cT P) q d (cI (flt (stM n d q y P (stC (cI C) C.length)) P.length)) (flt (stM n d q y P (stC (cI C) C.length)) P.length).length n)) 3 1))]⟩) (e:=.ret) (m:=2) (ps:=[IsT P.length (cT P),IsC 1 C.length (cI C),C.length≤1000,(!eqI (icE n d q (cT P) P.length (cI C) C.length) 0)=false,FreeL (cT P),FreeL (cI C),IsT P.length (cT P),IsC 1 C.length (cI C),P.length≤24,C.length≤1000,chB (cI C) C.length P.length=true,FreeL (cT P),FreeL (cT P),IsRd (rdT [AV.v (Value.int IntKind.i64 n),AV.v (Value.int IntKind.i64 d),AV.v (Value.int IntKind.i64 q),AV.xl y P.length 3 (cT P)] (stC (cI C) C.length)),roE n d q (cT P) P.length=0,0 < (flt (stM n d q y P (stC (cI C) C.length)) P.length).length,0 < (drL (cT P) q d (cI (flt (stM n d q y P (stC (cI C) C.length)) P.length)) (flt (stM n d q y P (stC (cI C) C.length)) P.length).length n).length,eqI ((drV (cT P) q d (cI (flt (stM n d q y P (stC (cI C) C.length)) P.length)) (flt (stM n d q y P (stC (cI C) C.length)) P.length).length n:Nat):Int) n=false]) [.go,.go,.go,.go,.go,.go,.go,.go,.go,.b false,.go,.go,.go,.go,.go,.go,.go,.go,.go,.go,.go,.b false,.go,.go,.go,.go,.go] [1] [(.v (.int .i64 (((drV (cT P) q d (cI (flt (stM n d q y P (stC (cI C) C.length)) P.length)) (flt (stM n d q y P (stC (cI C) C.length)) P.length).length n:Nat):Int)))),(.slu 1 0 ((drL (cT P) q d (cI (flt (stM n d q y P (stC (cI C) C.length)) P.length)) (flt (stM n d q y P (stC (cI C) C.length)) P.length).length n).length) 0),(.v (.int .i64 (.ofNat 0)))] [(.row (cI (drL (cT P) q d (cI (flt (stM n d q y P (stC (cI C) C.length)) P.length)) (flt (stM n d q y P (stC (cI C) C.length)) P.length).length n)) 3 1)] (by kernel_rfl) (by kernel_rfl) ⟨⟨P,rfl,rfl⟩,⟨rfl,_,rfl,rfl⟩,hC,(by rw [hqdDr3_1]; rfl),(freeL_plain (cT_plain P)),(freeL_plain (cI_plain _)),⟨P,rfl,rfl⟩,⟨rfl,_,rfl,rfl⟩,hm,hC,(chB_true.2 hch),(freeL_plain (cT_plain P)),(freeL_plain (cT_plain P)),⟨_,_,_,_,P,_,rfl⟩,hR,(by rw [hX]; exact h0),(by rw [hX]; exact hl),hqdDr3_2,trivial⟩ rfl rfl (by decide) rfl ⟨nr_v _,nr_slu rfl,nr_v _,trivial⟩ ⟨⟨by show 0 < 1; decide,nrb_row (nrl_plain (cI_plain _))⟩,trivial⟩) (en_eqM (r:=(.tup [(.v (.int .i64 (((drV (cT P) q d (cI (flt (stM n d q y P (stC (cI C) C.length)) P.length)) (flt (stM n d q y P (stC (cI C) C.length)) P.length).length n:Nat):Int)))),(.slu 0 0 ((drL (cT P) q d (cI (flt (stM n d q y P (stC (cI C) C.length)) P.length)) (flt (stM n d q y P (stC (cI C) C.length)) P.length).length n).length) 0),(.v (.int .i64 (.ofNat 0)))])) (ys:=[(.row (cI (drL (cT P) q d (cI (flt (stM n d q y P (stC (cI C) C.length)) P.length)) (flt (stM n d q y P (stC (cI C) C.length)) P.length).length n)) 3 1)]) (by ((rw [hX]) <;> rfl)) (by rw [hX]) (en_retM (by kernel_rfl) (by kernel_rfl) rfl (.inr rfl)))
 ·skip
  have ghqdDr3_1:=eqI_false hqdDr3_1
  exact absurd hE (eqI_false hqdDr3_1)
theorem dDr (n:Nat) (d q:Int) (y:Value) (P:List (Int×Int×Int)) (z:Value) (C:List Int) (hE:icE n d q (cT P) P.length (cI C) C.length=0) (hC:C.length≤1000) (h0:0 < C.length) (hl:0 < (drL (cT P) q d (cI C) C.length n).length):GivesM Try.prog 24 [(.agg [.v (.int .i64 n),.v (.int .i64 d),.v (.int .i64 q),.xl y P.length 3 (cT P)]),(.xl z C.length 1 (cI C))] [] ((.tup [.v (.int .i64 (((drV (cT P) q d (cI C) C.length n):Nat):Int)),.slu 0 0 (drL (cT P) q d (cI C) C.length n).length 0,.v (.int .i64 0)])) [(.row (cI (drL (cT P) q d (cI C) C.length n)) 3 1)] :=
 givesM_parts 29 (by kernel_rfl) Try.func24 (by kernel_rfl) (by kernel_rfl) (by kernel_rfl) (fun v eb ec=>goes_less (by kernel_rfl) (by kernel_rfl) (by kernel_rfl) (by kernel_rfl) (dDr_2 n d q y P z C hE hC h0 hl v eb ec []))
theorem ocd (n d q:Int) (y:Value) (P:List (Int×Int×Int)) (z:Value) (C:List Int) (p:Int) (z0:Value) (D:List Int) (hC:C.length≤1000) (hD:D.length≤1000):GivesA Try.prog 22 [(.agg [.v (.int .i64 n),.v (.int .i64 d),.v (.int .i64 q),.xl y P.length 3 (cT P)]),(.xl z C.length 1 (cI C)),(.v (.int .i64 p)),(.xl z0 D.length 1 (cI D))] (.int .i64 (cdE n d q (cT P) P.length (cI C) C.length p (cI D) D.length)):=by
 by_cases hE:icE n d q (cT P) P.length (cI C) C.length=0
 ·obtain ⟨n,rfl⟩:∃ k:Nat,n=((k:Nat):Int):=⟨n.toNat,by have h9:=(roE_zero (icE_zero hE).1).2.1.1; omega⟩
  exact odg n d q y P z C p z0 D hE hC hD
 ·exact odb n d q y P z C p z0 D hE hC hD
def ocdS:List AV→Option (Res1×List Prop):=fun args =>
 match args with
 | [a,.xl z k j e,.v u,.xl z0 g k0 f]=>match roadV a,numV u with
  | some (n,d,q,y,m,c),some p=>some (.val (.v (.int .i64 (cdE n d q c m e k p f g))),[IsT m c,IsC j k e,IsC k0 g f,k≤1000,g≤1000])
  | _,_=>none
 | _=>none
def ocdO:OrcH:=extOrc 22 ocdS
theorem known_ocd:Known Try.prog (clsO ocdO):=known_ext (fun args r ps h hp=>by
 unfold ocdS at h
 split at h
 ·split at h
  ·rename_i n d q y m c p e2 e3
   cases h
   obtain ⟨⟨P,rfl,rfl⟩,⟨rfl,C,rfl,rfl⟩,⟨rfl,D,rfl,rfl⟩,hk,hg,-⟩:=hp
   rw [roadV_eq e2,numV_eq e3]
   exact ⟨extL_cons (ext_road n d q y P) (extL_cons (ext_xl (extL_cI C)) (extL_cons (ext_v _) (extL_cons (ext_xl (extL_cI D)) extL_nil))),_,rfl,ocd n d q y P _ C p _ D hk hg⟩
  ·cases h
 ·cases h)
theorem rcd (n d q:Int) (y:Value) (P:List (Int×Int×Int)) (z:Value) (C:List Int) (p:Int) (z0:Value) (D:List Int) (hC:C.length≤1000) (hD:D.length≤1000):GivesA Try.prog 23 [(.agg [.v (.int .i64 n),.v (.int .i64 d),.v (.int .i64 q),.xl y P.length 3 (cT P)]),(.xl z C.length 1 (cI C)),(.v (.int .i64 p)),(.xl z0 D.length 1 (cI D))] (.int .i64 (cdE n d q (cT P) P.length (cI C) C.length p (cI D) D.length)):=by
 by_cases hE:icE n d q (cT P) P.length (cI C) C.length=0
 ·obtain ⟨n,rfl⟩:∃ k:Nat,n=((k:Nat):Int):=⟨n.toNat,by have h9:=(roE_zero (icE_zero hE).1).2.1.1; omega⟩
  exact rdg n d q y P z C p z0 D hE hC hD
 ·exact rdb n d q y P z C p z0 D hE hC hD
def rcdS:List AV→Option (Res1×List Prop):=fun args =>
 match args with
 | [a,.xl z k j e,.v u,.xl z0 g k0 f]=>match roadV a,numV u with
  | some (n,d,q,y,m,c),some p=>some (.val (.v (.int .i64 (cdE n d q c m e k p f g))),[IsT m c,IsC j k e,IsC k0 g f,k≤1000,g≤1000])
  | _,_=>none
 | _=>none
def rcdO:OrcH:=extOrc 23 rcdS
theorem known_rcd:Known Try.prog (clsO rcdO):=known_ext (fun args r ps h hp=>by
 unfold rcdS at h
 split at h
 ·split at h
  ·rename_i n d q y m c p e2 e3
   cases h
   obtain ⟨⟨P,rfl,rfl⟩,⟨rfl,C,rfl,rfl⟩,⟨rfl,D,rfl,rfl⟩,hk,hg,-⟩:=hp
   rw [roadV_eq e2,numV_eq e3]
   exact ⟨extL_cons (ext_road n d q y P) (extL_cons (ext_xl (extL_cI C)) (extL_cons (ext_v _) (extL_cons (ext_xl (extL_cI D)) extL_nil))),_,rfl,rcd n d q y P _ C p _ D hk hg⟩
  ·cases h
 ·cases h)
def rcxS:List Xv→Option (Res1×List Prop):=fun vs =>
 match vs with
 | [.ext a,.ext b,.ext w,.lst g k0 f]=>match b with
  | .xl z k j e=>match w with
   | .v u=>match roadV a,numV u with
    | some (n,d,q,y,m,c),some p=>some (.val (.v (.int .i64 (cdE n d q c m e k p f g))),[IsT m c,IsC j k e,IsC k0 g f,k≤1000,g≤1000])
    | _,_=>none
   | _=>none
  | _=>none
 | _=>none
def rcxO:OrcH:=exoOrc 23 [0,0,0,1] rcxS
theorem known_rcx:Known Try.prog (clsO rcxO):=known_exo (fun vs r ps h hp=>by
 unfold rcxS at h
 split at h
 ·split at h
  ·split at h
   ·split at h
    ·rename_i n d q y m c p e2 e3
     cases h
     obtain ⟨⟨P,rfl,rfl⟩,⟨rfl,C,rfl,rfl⟩,⟨rfl,D,rfl,rfl⟩,hk,hg,-⟩:=hp
     rw [roadV_eq e2,numV_eq e3]
     refine ⟨⟨ext_road n d q y P,ext_xl (extL_cI C),ext_v _,⟨_,cI_plain D⟩,trivial⟩,fun ys hy=>?_⟩
     match ys,hy with
     | [y1,y2,y3,y4],_=>exact ⟨_,rfl,rcd n d q y P _ C p y4 D hk hg⟩
    ·cases h
   ·cases h
  ·cases h
 ·cases h)
theorem takeL {L:List Int}:List.take (L.length * 1) (List.drop 0 (cI L))=cI L:=by
 rw [List.drop_zero,List.take_of_length_le (by rw [cI_len]; omega)]
theorem dk_nil {n m:Nat} {d q:Int} {c:List AV} {C:List Int} (hE:icE n d q c m (cI C) C.length=0) (hlt:drV c q d (cI C) C.length n < n) (hl:(drL c q d (cI C) C.length n).length=0):cdE n d q c m (cI C) C.length ((drV c q d (cI C) C.length n:Nat):Int) [] 0=0:=by
 have h:=dk_ok hE hlt
 rw [List.eq_nil_of_length_eq_zero hl] at h
 exact h
theorem dk_z {n m:Nat} {d q:Int} {c:List AV} {C:List Int} (hE:icE n d q c m (cI C) C.length=0) (h0:C.length=0):cdE n d q c m (cI C) C.length 0 [] 0=0:=by
 obtain ⟨-,⟨h1,h2,h3⟩,-⟩:=roE_zero (icE_zero hE).1
 have hv:=drV_z (c:=c) (q:=q) (n:=n) h0 (by omega) (show 0≤d by omega)
 have h:=dk_nil hE (by rw [hv]; omega) (by have:=drL_le (n:=n) (d:=d) (q:=q) (c:=c) (C:=C); omega)
 rw [hv] at h
 exact h
def dXbS:List AV→List AB→Option ((AV×List AB)×List Prop):=fun args xs =>
 match args with
 | [a,.xl z k j e]=>match roadV a,xs with
  | some (n,d,q,y,m,c),[]=>some ((.tup [.v (.int .i64 0),.v (.slice none 0 0),.v (.int .i64 (icE n d q c m e k))],[]),[IsT m c,IsC j k e,¬ icE n d q c m e k=0,k≤1000])
  | _,_=>none
 | _=>none
def dXbO:OrcH:=mOrc 24 dXbS
theorem known_dXb:Known Try.prog (clsO dXbO):=known_m (fun args xs r ys ps h hp=>by
 unfold dXbS at h
 split at h
 ·split at h
  ·rename_i n d q y m c e2
   cases h
   obtain ⟨⟨P,rfl,rfl⟩,⟨rfl,C,rfl,rfl⟩,hE,hk,-⟩:=hp
   rw [roadV_eq e2]
   exact ⟨fun x hx=>absurd hx List.not_mem_nil,fun x hx=>absurd hx List.not_mem_nil,dDb n d q y P _ C hE hk⟩
  ·cases h
 ·cases h)
def l4b:OrcH:=orO (orO (orO gtO ocdO) (orO rcdO rcxO)) (orO (orO dXbO isO) (orO rhO wkO))
theorem known_l4b (hw:Known Try.prog (clsO wkO)):Known Try.prog (clsO l4b):=known_or (known_or (known_or known_gt known_ocd) (known_or known_rcd known_rcx)) (known_or (known_or known_dXb known_is) (known_or known_rh hw))
def dXaS:List AV→List AB→Option ((AV×List AB)×List Prop):=fun args xs =>
 match args with
 | [a,.xl z k j e]=>match roadV a,xs with
  | some (n,d,q,y,m,c),[]=>some ((.tup [.v (.int .i64 0),.v (.slice none 0 0),.v (.int .i64 0)],[]),[IsT m c,IsC j k e,icE n d q c m e k=0,k≤1000,k=0])
  | _,_=>none
 | _=>none
def dXaO:OrcH:=mOrc 24 dXaS
theorem known_dXa:Known Try.prog (clsO dXaO):=known_m (fun args xs r ys ps h hp=>by
 unfold dXaS at h
 split at h
 ·split at h
  ·rename_i n d q y m c e2
   cases h
   obtain ⟨⟨P,rfl,rfl⟩,⟨rfl,C,rfl,rfl⟩,hE,hk,h1,-⟩:=hp
   obtain ⟨n,rfl⟩:∃ k:Nat,n=((k:Nat):Int):=⟨n.toNat,by have h9:=(roE_zero (icE_zero hE).1).2.1.1; omega⟩
   rw [roadV_eq e2]
   exact ⟨fun x hx=>absurd hx List.not_mem_nil,fun x hx=>absurd hx List.not_mem_nil,dDa n d q y P _ C hE hk h1⟩
  ·cases h
 ·cases h)
def l4a:OrcH:=orO (orO (orO gtO ocdO) (orO rcdO rcxO)) (orO (orO dXaO isO) (orO rhO wkO))
theorem known_l4a (hw:Known Try.prog (clsO wkO)):Known Try.prog (clsO l4a):=known_or (known_or (known_or known_gt known_ocd) (known_or known_rcd known_rcx)) (known_or (known_or known_dXa known_is) (known_or known_rh hw))
def dX5S:List AV→List AB→Option ((AV×List AB)×List Prop):=fun args xs =>
 match args with
 | [a,.xl z k j e]=>match roadV a,xs with
  | some (n,d,q,y,m,c),[]=>some ((.tup [.v (.int .i64 0),.v (.slice none 0 0),.v (.int .i64 5)],[]),[IsT m c,IsC j k e,icE n d q c m e k=0,k≤1000,0 < k,drV c q d e k n.toNat=n.toNat])
  | _,_=>none
 | _=>none
def dX5O:OrcH:=mOrc 24 dX5S
theorem known_dX5:Known Try.prog (clsO dX5O):=known_m (fun args xs r ys ps h hp=>by
 unfold dX5S at h
 split at h
 ·split at h
  ·rename_i n d q y m c e2
   cases h
   obtain ⟨⟨P,rfl,rfl⟩,⟨rfl,C,rfl,rfl⟩,hE,hk,h1,h2,-⟩:=hp
   obtain ⟨n,rfl⟩:∃ k:Nat,n=((k:Nat):Int):=⟨n.toNat,by have h9:=(roE_zero (icE_zero hE).1).2.1.1; omega⟩
   rw [roadV_eq e2]
   exact ⟨fun x hx=>absurd hx List.not_mem_nil,fun x hx=>absurd hx List.not_mem_nil,dD5 n d q y P _ C hE hk h1 h2⟩
  ·cases h
 ·cases h)
def l45:OrcH:=orO (orO (orO gtO ocdO) (orO rcdO rcxO)) (orO (orO dX5O isO) (orO rhO wkO))
theorem known_l45 (hw:Known Try.prog (clsO wkO)):Known Try.prog (clsO l45):=known_or (known_or (known_or known_gt known_ocd) (known_or known_rcd known_rcx)) (known_or (known_or known_dX5 known_is) (known_or known_rh hw))
def dXnS:List AV→List AB→Option ((AV×List AB)×List Prop):=fun args xs =>
 match args with
 | [a,.xl z k j e]=>match roadV a,xs with
  | some (n,d,q,y,m,c),[]=>some ((.tup [.v (.int .i64 ((drV c q d e k n.toNat:Nat):Int)),.v (.slice none 0 0),.v (.int .i64 0)],[]),[IsT m c,IsC j k e,icE n d q c m e k=0,k≤1000,0 < k,drV c q d e k n.toNat < n.toNat,(drL c q d e k n.toNat).length=0])
  | _,_=>none
 | _=>none
def dXnO:OrcH:=mOrc 24 dXnS
theorem known_dXn:Known Try.prog (clsO dXnO):=known_m (fun args xs r ys ps h hp=>by
 unfold dXnS at h
 split at h
 ·split at h
  ·rename_i n d q y m c e2
   cases h
   obtain ⟨⟨P,rfl,rfl⟩,⟨rfl,C,rfl,rfl⟩,hE,hk,h1,h2,h3,-⟩:=hp
   obtain ⟨n,rfl⟩:∃ k:Nat,n=((k:Nat):Int):=⟨n.toNat,by have h9:=(roE_zero (icE_zero hE).1).2.1.1; omega⟩
   rw [roadV_eq e2]
   exact ⟨fun x hx=>absurd hx List.not_mem_nil,fun x hx=>absurd hx List.not_mem_nil,dDn n d q y P _ C hE hk h1 h2 h3⟩
  ·cases h
 ·cases h)
def l4n:OrcH:=orO (orO (orO gtO ocdO) (orO rcdO rcxO)) (orO (orO dXnO isO) (orO rhO wkO))
theorem known_l4n (hw:Known Try.prog (clsO wkO)):Known Try.prog (clsO l4n):=known_or (known_or (known_or known_gt known_ocd) (known_or known_rcd known_rcx)) (known_or (known_or known_dXn known_is) (known_or known_rh hw))
def dXrS:List AV→List AB→Option ((AV×List AB)×List Prop):=fun args xs =>
 match args with
 | [a,.xl z k j e]=>match roadV a,xs with
  | some (n,d,q,y,m,c),[]=>some ((.tup [.v (.int .i64 ((drV c q d e k n.toNat:Nat):Int)),.slu 0 0 (drL c q d e k n.toNat).length 0,.v (.int .i64 0)],[.row (cI (drL c q d e k n.toNat)) 3 1]),[IsT m c,IsC j k e,icE n d q c m e k=0,k≤1000,0 < k,0 < (drL c q d e k n.toNat).length])
  | _,_=>none
 | _=>none
def dXrO:OrcH:=mOrc 24 dXrS
theorem known_dXr:Known Try.prog (clsO dXrO):=known_m (fun args xs r ys ps h hp=>by
 unfold dXrS at h
 split at h
 ·split at h
  ·rename_i n d q y m c e2
   cases h
   obtain ⟨⟨P,rfl,rfl⟩,⟨rfl,C,rfl,rfl⟩,hE,hk,h1,h2,-⟩:=hp
   obtain ⟨n,rfl⟩:∃ k:Nat,n=((k:Nat):Int):=⟨n.toNat,by have h9:=(roE_zero (icE_zero hE).1).2.1.1; omega⟩
   rw [roadV_eq e2]
   exact ⟨fun x hx=>absurd hx List.not_mem_nil,(fun x hx=>by rcases List.mem_cons.1 hx with rfl | hx; exact freeB_row (freeL_plain (cI_plain _)); exact absurd hx List.not_mem_nil),dDr n d q y P _ C hE hk h1 h2⟩
  ·cases h
 ·cases h)
def l4r:OrcH:=orO (orO (orO gtO ocdO) (orO rcdO rcxO)) (orO (orO dXrO isO) (orO rhO wkO))
theorem known_l4r (hw:Known Try.prog (clsO wkO)):Known Try.prog (clsO l4r):=known_or (known_or (known_or known_gt known_ocd) (known_or known_rcd known_rcx)) (known_or (known_or known_dXr known_is) (known_or known_rh hw))
end
end Go.Proofs.Ytnphldmnakbknaa
