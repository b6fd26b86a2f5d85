import Derived.Test.YtnphldmnakbknaaSq
set_option linter.all false
/- Choices and places (mathematics). -/
namespace Go.Proofs.Ytnphldmnakbknaa
open Go Ev
noncomputable section
def lgB (c:List AV) (q:Int) (x j:Nat):Bool:=@decide (lgP c q x j) (Classical.propDecidable _)
theorem lgB_true {c:List AV} {q:Int} {x j:Nat}:lgB c q x j=true↔lgP c q x j:=by unfold lgB; exact @decide_eq_true_iff _ (Classical.propDecidable _)
theorem lgB_f {c:List AV} {q:Int} {x j:Nat} (h:lgB c q x j=false):¬ lgP c q x j:=fun k=>by rw [lgB_true.2 k] at h; cases h
theorem lgB_no {c:List AV} {q:Int} {x j:Nat} (h:¬ lgP c q x j):lgB c q x j=false:=by
 cases e:lgB c q x j with
 | true=>exact absurd (lgB_true.1 e) h
 | false=>rfl
theorem lg_iff {c:List AV} {q:Int} {x j:Nat}:lgP c q x j↔intAt c (x * 3 + 0) + q≤j∧(j:Int)≤intAt c (x * 3 + 1) - q:=by
 unfold lgP poF poE
 by_cases h:intAt c (x * 3 + 0) + q ≥ intAt c (x * 3 + 1) - q + 1
 ·rw [if_pos h,if_pos h]
  omega
 ·rw [if_neg h,if_neg h]
  omega
theorem lgB_lt {c:List AV} {q:Int} {x j:Nat} (h:intAt c (x * 3 + 0) + q≤j):lgB c q x j = !ltI (intAt c (x * 3 + 1) - q) j:=by
 rw [ltI_iff]
 by_cases h2:intAt c (x * 3 + 1) - q < ((j:Nat):Int)
 ·rw [decide_eq_true h2,lgB_no (fun k=>by have:=lg_iff.1 k; omega)]
  rfl
 ·rw [decide_eq_false h2,lgB_true.2 (lg_iff.2 ⟨h,by omega⟩)]
  rfl
def memB (C:List Int) (j:Nat):Bool:=decide (((j:Nat):Int)∈C)
theorem flt_memB:∀ (m:Nat) (C:List Int),C.Pairwise (· < ·)→(∀ x,x∈C→0≤x∧x < m)→flt (memB C) m=C
 | 0,C,h,k=>by
  cases C with
  | nil=>rfl
  | cons x l=>have:=k x List.mem_cons_self; omega
 | m + 1,C,h,k=>by
  rcases List.eq_nil_or_concat C with rfl | ⟨C',x,rfl⟩
  ·have e:memB [] m=false:=decide_eq_false List.not_mem_nil
   rw [flt_f e]
   exact flt_memB m [] h (fun x hx=>absurd hx List.not_mem_nil)
  ·rw [List.concat_eq_append] at h k ⊢
   obtain ⟨h1,-,h3⟩:=List.pairwise_append.1 h
   have hx:=k x (by simp)
   by_cases e:x=((m:Nat):Int)
   ·have e1:memB (C' ++ [x]) m=true:=decide_eq_true (by simp [e])
    have hC:∀ z,z∈C'→0≤z∧z < m:=fun z hz=>by
     have h5:=h3 z hz x (by simp)
     have h6:=k z (by simp [hz])
     omega
    rw [flt_t e1,flt_ext (st':=memB C') (fun j hj=>by
     unfold memB
     refine decide_eq_decide.2 ⟨fun q=>?_,fun q=>by simp [q]⟩
     rcases List.mem_append.1 q with q | q
     ·exact q
     ·rw [List.mem_singleton] at q; omega),flt_memB m C' h1 hC,e]
   ·have e1:memB (C' ++ [x]) m=false:=decide_eq_false (fun q=>by
     rcases List.mem_append.1 q with q | q
     ·have:=h3 _ q x (by simp); omega
     ·rw [List.mem_singleton] at q; omega)
    rw [flt_f e1]
    exact flt_memB m _ h (fun z hz=>by
     have h6:=k z hz
     rcases List.mem_append.1 hz with q | q
     ·have:=h3 z q x (by simp); omega
     ·rw [List.mem_singleton] at q; omega)
theorem stC_iff {c:List AV}:∀ {k j:Nat},stC c k j=true↔∃ i,i < k∧(intAt c (i * 1)).toNat=j
 | 0,j=>by simp [stC]
 | k + 1,j=>by
  unfold stC updB
  by_cases h:j=(intAt c (k * 1)).toNat
  ·rw [if_pos h]
   exact ⟨fun _=>⟨k,by omega,h.symm⟩,fun _=>rfl⟩
  ·rw [if_neg h]
   rw [stC_iff (k:=k)]
   constructor
   ·rintro ⟨i,h1,h2⟩; exact ⟨i,by omega,h2⟩
   ·rintro ⟨i,h1,h2⟩
    by_cases e:i=k
    ·subst e; exact absurd h2.symm h
    ·exact ⟨i,by omega,h2⟩
theorem chP_lt {C:List Int} {m:Int} (h:chP (cI C) C.length m):∀ (i j:Nat),i < j→j < C.length→intAt (cI C) (i * 1) < intAt (cI C) (j * 1)
 | i,0,h1,_=>by omega
 | i,j + 1,h1,h2=>by
  have:=h.2 j h2
  by_cases e:i=j
  ·subst e; exact this
  ·have:=chP_lt h i j (by omega) (by omega); omega
theorem flt_stC {C:List Int} {m:Nat} (h:chP (cI C) C.length m):flt (stC (cI C) C.length) m=C:=by
 have at_:∀ i (hi:i < C.length),intAt (cI C) (i * 1)=C[i]:=fun i hi=>by rw [Nat.mul_one]; exact cI_int hi
 have hp:C.Pairwise (· < ·):=by
  rw [List.pairwise_iff_getElem]
  intro i j hi hj hij
  have:=chP_lt h i j hij hj
  rw [at_ i hi,at_ j hj] at this
  exact this
 have hb:∀ x,x∈C→0≤x∧x < m:=fun x hx=>by
  obtain ⟨i,hi,rfl⟩:=List.getElem_of_mem hx
  have:=h.1 i hi
  rw [at_ i hi] at this
  exact this
 rw [flt_ext (st':=memB C) (fun j hj=>?_)]
 ·exact flt_memB m C hp hb
 ·have e:stC (cI C) C.length j=true↔memB C j=true:=by
   rw [stC_iff]
   unfold memB
   rw [decide_eq_true_iff]
   constructor
   ·rintro ⟨i,hi,e⟩
    have h1:=h.1 i hi
    have h2:=at_ i hi
    rw [h2] at e h1
    rw [show ((j:Nat):Int)=C[i] by omega]
    exact List.getElem_mem hi
   ·intro hx
    obtain ⟨i,hi,e⟩:=List.getElem_of_mem hx
    exact ⟨i,hi,by rw [at_ i hi,e]; rfl⟩
  cases h1:stC (cI C) C.length j with
  | true=>exact (e.1 h1).symm
  | false =>
   cases h2:memB C j with
   | true=>rw [e.2 h2] at h1; cases h1
   | false=>rfl
theorem litR_start {c xs:List AV} {q:Int} {n i:Nat}:cI (tabL (litF c q xs i) n)=cI (tabL (litG c q xs i 0) n):=by rw [litG_start]
def rlK1:Code:=bodyC Try.f51
set_option maxHeartbeats 2000000 in
theorem rl_2 (n d q:Int) (y:Value) (P:PL) (x j:Nat) (hE:roE n d q (cT P) P.length=0) (hx:x < P.length) (hj:j≤1000) (w:World) (hs:LN):Goes pg 31 rlK1 (⟨[(0,(.agg [.v (.int .i64 n),.v (.int .i64 d),.v (.int .i64 q),.xl y P.length 3 (cT P)])),(1,(.v (.int .i64 x))),(2,(.v (.int .i64 j)))],[],0,[]⟩) (BaseW.H w hs) (OutH pg Try.f51 31 (.bool (lgB (cT P) q x j)) w):=by
 obtain ⟨hm,⟨ha1,ha2,ha3⟩,hp⟩:=roE_zero hE
 have hpx:=hp x hx
 unfold posP at hpx
 have hcT:=cT_len P
 have hz0:intAt (cT P) (x * 3)=intAt (cT P) (x * 3 + 0):=rfl
 rcases bE (ltI j (intAt (cT P) (x * 3 + 0) + q)) with hqrl3_1 | hqrl3_1
 ·skip
  have ghqrl3_1:=lT hqrl3_1
  exact gL isR_e (gT cm (kN) 200 (T':=⟨[(6,(.v (.bool .false)))],[],1,[]⟩) (e:=.ret) (ps:=[x < P.length,x * 3 + 0 < ((cT P):List AV).length,loadL pg (cT P) (x * 3 + 0) 3=some (.v (.int .i64 (intAt (cT P) (x * 3 + 0)))),inR .i64 (intAt (cT P) (x * 3 + 0) + q),(!ltI j (intAt (cT P) (x * 3 + 0) + q))=false,false=false,false=false,false=false,false=false,false=false,false=false,false=false,false=false,false=false,false=false]) [.go,.go,.go,.go,.go,.go,.sym,.sym,.sym,.go,.go,.go,.go,.go,.b false,.b false,.b false,.b false,.b false,.b false,.b false,.b false,.b false,.b false,.b false,.go,.go] (by kernel_rfl) (by kernel_rfl) ⟨hx,(by omega),(cT_ld (by omega) 3 (u3) rfl),(by show -9223372036854775808≤_∧_≤9223372036854775807; constructor <;> omega),(by rw [hqrl3_1]; rfl),rfl,rfl,rfl,rfl,rfl,rfl,rfl,rfl,rfl,rfl,trivial⟩ rfl) (Hd.en_eq (r:=(.bool .false)) (by rw [lgB_no (fun k9=>by have k8:=lg_iff.1 k9; omega)]) (Hd.en_ret (v:=(.v (.bool .false))) (by kernel_rfl) rfl))
 ·skip
  have ghqrl3_1:=lF hqrl3_1
  exact gL isR_e (gT cm (kN) 200 (T':=⟨[(6,(.v (.bool (!ltI (intAt (cT P) (x * 3 + 1) - q) j))))],[],1,[]⟩) (e:=.ret) (ps:=[x < P.length,x * 3 + 0 < ((cT P):List AV).length,loadL pg (cT P) (x * 3 + 0) 3=some (.v (.int .i64 (intAt (cT P) (x * 3 + 0)))),inR .i64 (intAt (cT P) (x * 3 + 0) + q),(!ltI j (intAt (cT P) (x * 3 + 0) + q))=true,true=true,true=true,true=true,true=true,x < P.length,true=true,x * 3 + 1 < ((cT P):List AV).length,true=true,loadL pg (cT P) (x * 3 + 1) 3=some (.v (.int .i64 (intAt (cT P) (x * 3 + 1)))),true=true,true=true,true=true,inR .i64 (intAt (cT P) (x * 3 + 1) - q),true=true]) [.go,.go,.go,.go,.go,.go,.sym,.sym,.sym,.go,.go,.go,.go,.go,.b true,.go,.b true,.go,.b true,.go,.b true,.go,.b true,.sym,.b true,.sym,.b true,.sym,.b true,.go,.b true,.go,.b true,.go,.b true,.go,.go,.go] (by kernel_rfl) (by kernel_rfl) ⟨hx,(by omega),(cT_ld (by omega) 3 (u3) rfl),(by show -9223372036854775808≤_∧_≤9223372036854775807; constructor <;> omega),(by rw [hqrl3_1]; rfl),rfl,rfl,rfl,rfl,hx,rfl,(by omega),rfl,(cT_ld (by omega) 3 (u3) rfl),rfl,rfl,rfl,(by show -9223372036854775808≤_∧_≤9223372036854775807; constructor <;> omega),rfl,trivial⟩ rfl) (Hd.en_eq (r:=(.bool (!ltI (intAt (cT P) (x * 3 + 1) - q) j))) (by (rw [lgB_lt (by omega)])) (Hd.en_ret (v:=(.v (.bool (!ltI (intAt (cT P) (x * 3 + 1) - q) j)))) (by kernel_rfl) rfl))
theorem lights_g (n d q:Int) (y:Value) (P:PL) (x j:Nat) (hE:roE n d q (cT P) P.length=0) (hx:x < P.length) (hj:j≤1000):GivesA pg 51 [(.agg [.v (.int .i64 n),.v (.int .i64 d),.v (.int .i64 q),.xl y P.length 3 (cT P)]),(.v (.int .i64 x)),(.v (.int .i64 j))] (.bool (lgB (cT P) q x j)) :=
 givesA_partsH 31 Try.func51 (by kernel_rfl) (by kernel_rfl) (by kernel_rfl) (fun w=>goes_less (by kernel_rfl) (by kernel_rfl) (by kernel_rfl) (by kernel_rfl) (rl_2 n d q y P x j hE hx hj w []))
def lgS:List AV→Option (Res1×List Prop):=fun args =>
 match args with
 | [a,.v u,.v w]=>match roadV a,numV u,numV w with
  | some (n,d,q,y,m,c),some x,some j=>some (.val (.v (.bool (lgB c q x.toNat j.toNat))),[IsT m c,roE n d q c m=0,0≤x∧x < m,0≤j∧j≤1000])
  | _,_,_=>none
 | _=>none
def lgO:OrcH:=extOrc 51 lgS
theorem known_lg:Known pg (clsO lgO):=known_ext (fun args r ps h hp=>by
 unfold lgS at h
 split at h
 ·split at h
  ·rename_i n d q y m c x j e e2 e3
   cases h
   obtain ⟨⟨P,rfl,rfl⟩,hE,hx,hj,-⟩:=hp
   rw [roadV_eq e,numV_eq e2,numV_eq e3]
   obtain ⟨x,rfl⟩:=Int.eq_ofNat_of_zero_le hx.1
   obtain ⟨j,rfl⟩:=Int.eq_ofNat_of_zero_le hj.1
   exact ⟨extL_cons (ext_road n d q y P) (extL_cons (ext_v _) (extL_cons (ext_v _) extL_nil)),_,rfl,lights_g n d q y P x j hE (by omega) (by omega)⟩
  ·cases h
 ·cases h)
theorem icE_zero {n d q:Int} {c e:List AV} {m k:Nat} (h:icE n d q c m e k=0):roE n d q c m=0∧chP e k m:=by
 unfold icE at h
 split at h
 ·split at h
  ·rename_i h1 h2
   exact ⟨h1,chB_true.1 h2⟩
  ·omega
 ·rename_i h1
  exact absurd h h1
end
end Go.Proofs.Ytnphldmnakbknaa
