import Derived.Test.YtnphldmnakbknaaDa
import Derived.Test.YtnphldmnakbknaaDn
import Derived.Test.YtnphldmnakbknaaDr
import Derived.Test.YtnphldmnakbknaaCa
import Derived.Test.YtnphldmnakbknaaCb
import Derived.Test.YtnphldmnakbknaaT4
import Derived.Test.YtnphldmnakbknaaSla
import Derived.Test.YtnphldmnakbknaaSlb
set_option maxHeartbeats 4000000
set_option linter.all false
/- What is known of dark places. -/
namespace Go.Proofs.Ytnphldmnakbknaa
open Go Ev
noncomputable section
section
variable (C : List Int) (P : List (Int × Int × Int)) (d : Int) (n : Nat) (q : Int) (y z : Value)
@[reducible] def qI1_4:Nat×Ev.AB:=(0,(.cells [(.v (.int .i64 n)),(.v (.int .i64 (d))),(.v (.int .i64 (q))),(.xl (y) (P.length) 3 (cT P))] 24))
@[reducible] def qI1_6:=(cI (tabL (litF (cT P) q (cI C) C.length) n))
@[reducible] def qI1_5:Nat×Ev.AB:=(1,(.cells (qI1_6 C P n q) 3))
@[reducible] def qI1_1:Ev.Lit:=⟨[(2,(.ptr 0 0)),(5,(.sl 1 0 (n) (n))),(6,(.v (.int .i64 (.ofNat 0))))],[],2,[(qI1_4 P d n q y),(qI1_5 C P n q)]⟩
@[reducible] def qI1_2:Ev.Lit:=⟨[(2,(.ptr 0 0)),(5,(.sl 1 0 (n) (n)))],[],2,[(qI1_4 P d n q y),(qI1_5 C P n q)]⟩
@[reducible] def qI1_3:Ev.Lit:=⟨[(1,(.xl (z) (C.length) 1 (cI C))),(2,(.ptr 0 0))],[],1,[(qI1_4 P d n q y)]⟩
end
def dkSa:List AV→List AB→Option ((AV×List AB)×List Prop):=fun args xs =>
 match args with
 | [.agg l]=>match rdV l,xs with
  | some (n,d,q,y,m,c),[]=>some ((.tup [.v (.int .i64 0),.v (.slice none 0 0)],[]),[IsRd l,roE n d q c m=0,(flt (stnd l) m).length=0])
  | _,_=>none
 | _=>none
def dkOa:OrcH:=mOrc 52 dkSa
theorem known_dka:Known Try.prog (clsO dkOa):=known_m (fun args xs r ys ps h hp=>by
 unfold dkSa at h
 split at h
 ·split at h
  ·rename_i n d q y m c e
   cases h
   obtain ⟨⟨n,d,q,y,P,st,rfl⟩,hE,h0,-⟩:=hp
   obtain ⟨rfl,rfl,rfl,rfl,rfl,rfl⟩:=rdV_eq e
   obtain ⟨k,rfl⟩:∃ k:Nat,n=((k:Nat):Int):=⟨n.toNat,by have h9:=(roE_zero hE).2.1.1; omega⟩
   exact ⟨fun x hx=>absurd hx List.not_mem_nil,fun x hx=>absurd hx List.not_mem_nil,dark_a k _ _ _ P st hE h0⟩
  ·cases h
 ·cases h)
def dkSn:List AV→List AB→Option ((AV×List AB)×List Prop):=fun args xs =>
 match args with
 | [.agg l]=>match rdV l,xs with
  | some (n,d,q,y,m,c),[]=>some ((.tup [.v (.int .i64 (((drV c q d (cI (flt (stnd l) m)) (flt (stnd l) m).length n.toNat):Nat):Int)),.v (.slice none 0 0)],[]),[IsRd l,roE n d q c m=0,0 < (flt (stnd l) m).length,(drL c q d (cI (flt (stnd l) m)) (flt (stnd l) m).length n.toNat).length=0])
  | _,_=>none
 | _=>none
def dkOn:OrcH:=mOrc 52 dkSn
theorem known_dkn:Known Try.prog (clsO dkOn):=known_m (fun args xs r ys ps h hp=>by
 unfold dkSn at h
 split at h
 ·split at h
  ·rename_i n d q y m c e
   cases h
   obtain ⟨⟨n,d,q,y,P,st,rfl⟩,hE,h0,hl,-⟩:=hp
   obtain ⟨rfl,rfl,rfl,rfl,rfl,rfl⟩:=rdV_eq e
   obtain ⟨k,rfl⟩:∃ k:Nat,n=((k:Nat):Int):=⟨n.toNat,by have h9:=(roE_zero hE).2.1.1; omega⟩
   exact ⟨fun x hx=>absurd hx List.not_mem_nil,fun x hx=>absurd hx List.not_mem_nil,dark_n k _ _ _ P st hE h0 hl⟩
  ·cases h
 ·cases h)
def dkSr:List AV→List AB→Option ((AV×List AB)×List Prop):=fun args xs =>
 match args with
 | [.agg l]=>match rdV l,xs with
  | some (n,d,q,y,m,c),[]=>some ((.tup [.v (.int .i64 (((drV c q d (cI (flt (stnd l) m)) (flt (stnd l) m).length n.toNat):Nat):Int)),.slu 0 0 (drL c q d (cI (flt (stnd l) m)) (flt (stnd l) m).length n.toNat).length 0],[.row (cI (drL c q d (cI (flt (stnd l) m)) (flt (stnd l) m).length n.toNat)) 3 1]),[IsRd l,roE n d q c m=0,0 < (flt (stnd l) m).length,0 < (drL c q d (cI (flt (stnd l) m)) (flt (stnd l) m).length n.toNat).length])
  | _,_=>none
 | _=>none
def dkOr:OrcH:=mOrc 52 dkSr
theorem known_dkr:Known Try.prog (clsO dkOr):=known_m (fun args xs r ys ps h hp=>by
 unfold dkSr at h
 split at h
 ·split at h
  ·rename_i n d q y m c e
   cases h
   obtain ⟨⟨n,d,q,y,P,st,rfl⟩,hE,h0,hl,-⟩:=hp
   obtain ⟨rfl,rfl,rfl,rfl,rfl,rfl⟩:=rdV_eq e
   obtain ⟨k,rfl⟩:∃ k:Nat,n=((k:Nat):Int):=⟨n.toNat,by have h9:=(roE_zero hE).2.1.1; omega⟩
   exact ⟨fun x hx=>absurd hx List.not_mem_nil,fun x hx=>by rcases List.mem_cons.1 hx with rfl | hx; exact freeB_row (freeL_plain (cI_plain _)); exact absurd hx List.not_mem_nil,dark_r k _ _ _ P st hE h0 hl⟩
  ·cases h
 ·cases h)
theorem fst_le_of {f:Nat→Bool} {i:Nat} (hf:f i=true):∀ {n:Nat},i < n→fstF f n≤i
 | n + 1,h=>by
  have h1:=fst_le f n
  by_cases e:i=n
  ·subst e
   simp only [fstF,hf,if_true]
   split <;> omega
  ·have ih:=fst_le_of hf (show i < n by omega)
   simp only [fstF]
   rw [if_pos (by omega)]
   exact ih
def hoB (c:List AV) (q d:Int) (xs:List AV) (k n:Nat):Bool:=eqI ((drV c q d xs k n:Nat):Int) n
section
variable {c xs : List AV} {q d : Int} {k n i : Nat}
theorem ho_yes (h:∀ j,j < n→d < litF c q xs k j):hoB c q d xs k n=true:=by
 unfold hoB
 rw [(dr_none h).1]
 exact eqI_self _
theorem ho_no (hi:i < n) (h:litF c q xs k i≤d):hoB c q d xs k n=false:=by
 unfold hoB
 have:drV c q d xs k n≤i:=fst_le_of (f:=dkB c q d xs k) (decide_eq_true (p:=litF c q xs k i≤d) h) hi
 rw [eqI_iff]
 exact decide_eq_false (by omega)
end
def rlS:List AV→List AB→Option ((AV×List AB)×List Prop):=fun args xs =>
 match args with
 | [a,.xl z k j e]=>match roadV a,xs with
  | some (n,d,q,y,m,c),[]=>some ((.sl 0 0 n.toNat n.toNat,[.cells (cI (tabL (litF c q e k) n.toNat)) 3]),[IsT m c,IsC j k e,icE n d q c m e k=0,k≤1000])
  | _,_=>none
 | _=>none
def rlO:OrcH:=mOrc 43 rlS
theorem known_rl:Known Try.prog (clsO rlO):=known_m (fun args xs r ys ps h hp=>by
 unfold rlS at h
 split at h
 ·split at h
  ·rename_i n d q y m c e2
   cases h
   obtain ⟨⟨P,rfl,rfl⟩,⟨rfl,C,rfl,rfl⟩,hE,hk,-⟩:=hp
   obtain ⟨n,rfl⟩:∃ k:Nat,n=((k:Nat):Int):=⟨n.toNat,by have h9:=(roE_zero (icE_zero hE).1).2.1.1; omega⟩
   rw [roadV_eq e2]
   refine ⟨fun x hx=>absurd hx List.not_mem_nil,fun x hx=>?_,rlit_g n d q y P _ C hE hk⟩
   rcases List.mem_cons.1 hx with rfl | hx
   ·exact freeB_cells (freeL_plain (cI_plain _))
   ·exact absurd hx List.not_mem_nil
  ·cases h
 ·cases h)
noncomputable def rhK1:Code:=bodyC Try.f26
noncomputable def rhK3:Code:=tlC rhK1
noncomputable def rhK6:Code:=tlC rhK3
noncomputable def rhK9:Code:=tlC rhK6
noncomputable def rhK10:Code:=(hdC rhK6)
noncomputable def rhK12:Code:=tlC rhK10
noncomputable def rhK16:Code:=loopC rhK12
theorem rh_19 (n:Nat) (d q:Int) (y:Value) (P:List (Int×Int×Int)) (z:Value) (C:List Int) (hE:icE n d q (cT P) P.length (cI C) C.length=0) (hC:C.length≤1000) (h0b:∀ k,k < (n)→d < litF (cT P) q (cI C) C.length k) (hqrh18_1:(ltI n n)=false) (v:BaseW) (eb:Nat→Option Nat) (ec:Nat→Nat) (hs:List Nat):Goes Try.prog 23 rhK9 (⟨[],[],2,[]⟩) (BaseW.H (bw v 0 eb ec) hs) (OutM Try.prog Try.f26 23 ((.v (.bool (hoB (cT P) q d (cI C) C.length n)))) [] (bw v 0 eb ec)):=by
 have hcl_C:=cI_len C
 obtain ⟨hR,hch⟩:=icE_zero hE
 obtain ⟨hm,⟨ha1,ha2,ha3⟩,hp⟩:=roE_zero hR
 have ghqrh18_1:=ltI_false hqrh18_1
 exact goes_leafA isR_e (goes_cut Try.checked.mixed (known_rl) 200 (T':=⟨[(4,(.v (.bool .true)))],[],0,[]⟩) (e:=.ret) (m:=2) (ps:=[]) [.go] (by kernel_rfl) (by kernel_rfl) trivial rfl (by show 0≤2; decide) ⟨⟨nb_v _,trivial⟩,trivial,rfl⟩ (by show 0≤0; decide)) (en_eqM (r:=(.v (.bool .true))) (ys:=[]) (by rw [ho_yes h0b]) (by rfl) (en_retM (by kernel_rfl) (by kernel_rfl) rfl (.inr rfl)))
theorem rh_17 (n:Nat) (d q:Int) (y:Value) (P:List (Int×Int×Int)) (z:Value) (C:List Int) (hE:icE n d q (cT P) P.length (cI C) C.length=0) (hC:C.length≤1000) (j:Nat) (hj1:j≤n) (hj2:∀ k,k < j→d < litF (cT P) q (cI C) C.length k) (v:BaseW) (eb:Nat→Option Nat) (ec:Nat→Nat) (hs:List Nat):Goes Try.prog 23 rhK16 (⟨[(2,(.ptr 0 0)),(5,(.sl 1 0 (n) (n))),(6,(.v (.int .i64 j)))],[],2,[(qI1_4 P d n q y),(qI1_5 C P n q)]⟩) (BaseW.H (bw v 0 eb ec) hs) (Hd.StepC Try.prog 23 0 (fun j:{j:Nat // j≤n∧∀ k,k < j→d < litF (cT P) q (cI C) C.length k}=>⟨[(2,(.ptr 0 0)),(5,(.sl 1 0 (n) (n))),(6,(.v (.int .i64 j.1)))],[],2,[(qI1_4 P d n q y),(qI1_5 C P n q)]⟩) (fun j:{j:Nat // j≤n∧∀ k,k < j→d < litF (cT P) q (cI C) C.length k}=>n - j.1) rhK9 (bw v 0 eb ec) (OutM Try.prog Try.f26 23 ((.v (.bool (hoB (cT P) q d (cI C) C.length n)))) [] (bw v 0 eb ec)) (⟨j,hj1,hj2⟩:{j:Nat // j≤n∧∀ k,k < j→d < litF (cT P) q (cI C) C.length k})):=by
 have hcl_C:=cI_len C
 obtain ⟨hR,hch⟩:=icE_zero hE
 obtain ⟨hm,⟨ha1,ha2,ha3⟩,hp⟩:=roE_zero hR
 rcases Bool.eq_false_or_eq_true (ltI j n) with hqrh18_1 | hqrh18_1
 ·skip
  have ghqrh18_1:=ltI_true hqrh18_1
  rcases Bool.eq_false_or_eq_true (ltI d (intAt (qI1_6 C P n q) (0 + j * 1))) with hqrh18_2 | hqrh18_2
  ·skip
   have ghqrh18_2:=ltI_true hqrh18_2
   rw [show 0 + j * 1=j by omega,tab_int0 _ (show j < n by omega)] at ghqrh18_2
   exact goes_leafA isN_e (goes_told Try.checked.mixed (known_rl) 200 (T':=⟨[(2,(.ptr 0 0)),(5,(.sl 1 0 (n) (n))),(6,(.v (.int .i64 (((j + 1):Nat):Int))))],[],2,[(qI1_4 P d n q y),(qI1_5 C P n q)]⟩) (e:=.normal) (ps:=[ltI j n=true,j < n,loadL Try.prog (qI1_6 C P n q) (0 + j * 1) 3=some (AV.v (Value.int IntKind.i64 (intAt (qI1_6 C P n q) (0 + j * 1)))),(!ltI d (intAt (qI1_6 C P n q) (0 + j * 1)))=false,inR IntKind.i64 (((j:Nat):Int) + 1)]) [.go,.go,.go,.go,.b true,.go,.go,.sym,.sym,.go,.go,.go,.b false,.go,.go,.go] (by kernel_rfl) (by kernel_rfl) ⟨hqrh18_1,(by omega),(by rw [Nat.zero_add,Nat.mul_one]; exact cI_load (by rw [tabL_len]; omega) 3 (Try.underlying3) rfl),(by rw [hqrh18_2]; rfl),(by show -9223372036854775808≤_∧_≤9223372036854775807; constructor <;> omega),trivial⟩ rfl) (Hd.en_on (⟨j + 1,by omega,(up_next0 hj2 (by omega))⟩) (by show n - (j + 1) < n - j; omega) rfl)
  ·skip
   have ghqrh18_2:=ltI_false hqrh18_2
   rw [show 0 + j * 1=j by omega,tab_int0 _ (show j < n by omega)] at ghqrh18_2
   exact goes_leafA isR_e (goes_cut Try.checked.mixed (known_rl) 200 (T':=⟨[(4,(.v (.bool .false)))],[],0,[]⟩) (e:=.ret) (m:=2) (ps:=[ltI j n=true,j < n,loadL Try.prog (qI1_6 C P n q) (0 + j * 1) 3=some (AV.v (Value.int IntKind.i64 (intAt (qI1_6 C P n q) (0 + j * 1)))),(!ltI d (intAt (qI1_6 C P n q) (0 + j * 1)))=true]) [.go,.go,.go,.go,.b true,.go,.go,.sym,.sym,.go,.go,.go,.b true,.go] (by kernel_rfl) (by kernel_rfl) ⟨hqrh18_1,(by omega),(by rw [Nat.zero_add,Nat.mul_one]; exact cI_load (by rw [tabL_len]; omega) 3 (Try.underlying3) rfl),(by rw [hqrh18_2]; rfl),trivial⟩ rfl (by show 0≤2; decide) ⟨⟨nb_v _,trivial⟩,trivial,rfl⟩ (by show 0≤0; decide)) (Hd.en_so (by intro h; cases h) (by intro h; cases h) (en_eqM (r:=(.v (.bool .false))) (ys:=[]) (by rw [ho_no (i:=j) (by omega) (by omega)]) (by rfl) (en_retM (by kernel_rfl) (by kernel_rfl) rfl (.inr rfl))))
 ·skip
  have ghqrh18_1:=ltI_false hqrh18_1
  obtain rfl:n=j:=by omega
  exact goes_leafA isX_e (goes_told Try.checked.mixed (known_rl) 200 (T':=⟨[],[],2,[]⟩) (e:=.exit 0) (ps:=[ltI n n=false]) [.go,.go,.go,.go,.b false] (by kernel_rfl) (by kernel_rfl) ⟨hqrh18_1,trivial⟩ rfl) (Hd.en_sx (rh_19 n d q y P z C hE hC hj2  hqrh18_1 v eb ec hs))
theorem rh_15 (n:Nat) (d q:Int) (y:Value) (P:List (Int×Int×Int)) (z:Value) (C:List Int) (hE:icE n d q (cT P) P.length (cI C) C.length=0) (hC:C.length≤1000) (v:BaseW) (eb:Nat→Option Nat) (ec:Nat→Nat) (hs:List Nat):Goes Try.prog 23 rhK12 ((qI1_1 C P d n q y)) (BaseW.H (bw v 0 eb ec) hs) (Hd.AfterN Try.prog 23 rhK9 (bw v 0 eb ec) (OutM Try.prog Try.f26 23 ((.v (.bool (hoB (cT P) q d (cI C) C.length n)))) [] (bw v 0 eb ec))):=by
 have hcl_C:=cI_len C
 obtain ⟨hR,hch⟩:=icE_zero hE
 obtain ⟨hm,⟨ha1,ha2,ha3⟩,hp⟩:=roE_zero hR
 exact Hd.goes_loopA (id:=0) (by kernel_rfl) (by kernel_rfl) (fun j:{j:Nat // j≤n∧∀ k,k < j→d < litF (cT P) q (cI C) C.length k}=>⟨[(2,(.ptr 0 0)),(5,(.sl 1 0 (n) (n))),(6,(.v (.int .i64 j.1)))],[],2,[(qI1_4 P d n q y),(qI1_5 C P n q)]⟩) (fun j:{j:Nat // j≤n∧∀ k,k < j→d < litF (cT P) q (cI C) C.length k}=>n - j.1) (fun ix_ hs=>rh_17 n d q y P z C hE hC ix_.1 ix_.2.1 ix_.2.2 v eb ec hs) ⟨0,Nat.zero_le _,(fun k hk=>by omega)⟩ hs
theorem rh_14 (n:Nat) (d q:Int) (y:Value) (P:List (Int×Int×Int)) (z:Value) (C:List Int) (hE:icE n d q (cT P) P.length (cI C) C.length=0) (hC:C.length≤1000) (v:BaseW) (eb:Nat→Option Nat) (ec:Nat→Nat) (hs:List Nat):Goes Try.prog 23 rhK12 ((qI1_1 C P d n q y)) (BaseW.H (bw v 0 eb ec) hs) (Hd.AfterN Try.prog 23 rhK9 (bw v 0 eb ec) (OutM Try.prog Try.f26 23 ((.v (.bool (hoB (cT P) q d (cI C) C.length n)))) [] (bw v 0 eb ec))):=by
 exact rh_15 n d q y P z C hE hC v eb ec hs
theorem rh_11 (n:Nat) (d q:Int) (y:Value) (P:List (Int×Int×Int)) (z:Value) (C:List Int) (hE:icE n d q (cT P) P.length (cI C) C.length=0) (hC:C.length≤1000) (v:BaseW) (eb:Nat→Option Nat) (ec:Nat→Nat) (hs:List Nat):Goes Try.prog 23 rhK10 ((qI1_2 C P d n q y)) (BaseW.H (bw v 0 eb ec) hs) (Hd.AfterN Try.prog 23 rhK9 (bw v 0 eb ec) (OutM Try.prog Try.f26 23 ((.v (.bool (hoB (cT P) q d (cI C) C.length n)))) [] (bw v 0 eb ec))):=by
 have hcl_C:=cI_len C
 obtain ⟨hR,hch⟩:=icE_zero hE
 obtain ⟨hm,⟨ha1,ha2,ha3⟩,hp⟩:=roE_zero hR
 refine Hd.goes_seqA (by kernel_rfl) ?_
 exact goes_leafA isN_e (goes_told Try.checked.mixed (known_rl) 200 (T':=(qI1_1 C P d n q y)) (e:=.normal) (ps:=[]) [.go] (by kernel_rfl) (by kernel_rfl) trivial rfl) (Hd.en_n (rh_14 n d q y P z C hE hC v eb ec hs))
theorem rh_8 (n:Nat) (d q:Int) (y:Value) (P:List (Int×Int×Int)) (z:Value) (C:List Int) (hE:icE n d q (cT P) P.length (cI C) C.length=0) (hC:C.length≤1000) (v:BaseW) (eb:Nat→Option Nat) (ec:Nat→Nat) (hs:List Nat):Goes Try.prog 23 rhK6 ((qI1_2 C P d n q y)) (BaseW.H (bw v 0 eb ec) hs) (OutM Try.prog Try.f26 23 ((.v (.bool (hoB (cT P) q d (cI C) C.length n)))) [] (bw v 0 eb ec)):=by
 exact Hd.goes_seqA (by kernel_rfl) (rh_11 n d q y P z C hE hC v eb ec hs)
theorem rh_5 (n:Nat) (d q:Int) (y:Value) (P:List (Int×Int×Int)) (z:Value) (C:List Int) (hE:icE n d q (cT P) P.length (cI C) C.length=0) (hC:C.length≤1000) (v:BaseW) (eb:Nat→Option Nat) (ec:Nat→Nat) (hs:List Nat):Goes Try.prog 23 rhK3 ((qI1_3 C P d n q y z)) (BaseW.H (bw v 0 eb ec) hs) (OutM Try.prog Try.f26 23 ((.v (.bool (hoB (cT P) q d (cI C) C.length n)))) [] (bw v 0 eb ec)):=by
 have hcl_C:=cI_len C
 obtain ⟨hR,hch⟩:=icE_zero hE
 obtain ⟨hm,⟨ha1,ha2,ha3⟩,hp⟩:=roE_zero hR
 refine Hd.goes_seqA (by kernel_rfl) ?_
 exact goes_leafA isN_e (goes_told Try.checked.mixed (known_rl) 200 (T':=(qI1_2 C P d n q y)) (e:=.normal) (ps:=[FreeL (cT P),FreeL (cI C),IsT P.length (cT P),IsC 1 C.length (cI C),icE n d q (cT P) P.length (cI C) C.length=0,C.length≤1000]) [.go,.go,.go] (by kernel_rfl) (by kernel_rfl) ⟨(freeL_plain (cT_plain P)),(freeL_plain (cI_plain C)),⟨P,rfl,rfl⟩,⟨rfl,_,rfl,rfl⟩,hE,hC,trivial⟩ rfl) (Hd.en_n (rh_8 n d q y P z C hE hC v eb ec hs))
theorem rh_2 (n:Nat) (d q:Int) (y:Value) (P:List (Int×Int×Int)) (z:Value) (C:List Int) (hE:icE n d q (cT P) P.length (cI C) C.length=0) (hC:C.length≤1000) (v:BaseW) (eb:Nat→Option Nat) (ec:Nat→Nat) (hs:List Nat):Goes Try.prog 23 rhK1 (⟨[(0,(.agg [.v (.int .i64 n),.v (.int .i64 d),.v (.int .i64 q),.xl y P.length 3 (cT P)])),(1,(.xl z C.length 1 (cI C)))],[],0,[]⟩) (BaseW.H (bw v 0 eb ec) hs) (OutM Try.prog Try.f26 23 ((.v (.bool (hoB (cT P) q d (cI C) C.length n)))) [] (bw v 0 eb ec)):=by
 have hcl_C:=cI_len C
 obtain ⟨hR,hch⟩:=icE_zero hE
 obtain ⟨hm,⟨ha1,ha2,ha3⟩,hp⟩:=roE_zero hR
 refine Hd.goes_seqA (by kernel_rfl) ?_
 exact goes_leafA isN_e (goes_told Try.checked.mixed (known_rl) 200 (T':=(qI1_3 C P d n q y z)) (e:=.normal) (ps:=[]) [.go,.go] (by kernel_rfl) (by kernel_rfl) trivial rfl) (Hd.en_n (rh_5 n d q y P z C hE hC v eb ec hs))
theorem rholds_g (n:Nat) (d q:Int) (y:Value) (P:List (Int×Int×Int)) (z:Value) (C:List Int) (hE:icE n d q (cT P) P.length (cI C) C.length=0) (hC:C.length≤1000):GivesM Try.prog 26 [(.agg [.v (.int .i64 n),.v (.int .i64 d),.v (.int .i64 q),.xl y P.length 3 (cT P)]),(.xl z C.length 1 (cI C))] [] ((.v (.bool (hoB (cT P) q d (cI C) C.length n)))) [] :=
 givesM_parts 23 (by kernel_rfl) Try.func26 (by kernel_rfl) (by kernel_rfl) (by kernel_rfl) (fun v eb ec=>goes_less (by kernel_rfl) (by kernel_rfl) (by kernel_rfl) (by kernel_rfl) (rh_2 n d q y P z C hE hC v eb ec []))
def ckS:List AV→Option (Res1×List Prop):=fun args =>
 match args with
 | [a,.xl z k j e]=>match roadV a with
  | some (n,d,q,y,m,c)=>some (.val (.v (.int .i64 (icE n d q c m e k))),[IsT m c,IsC j k e,k≤1000])
  | none=>none
 | _=>none
def ckO:OrcH:=extOrc 40 ckS
theorem known_ck:Known Try.prog (clsO ckO):=known_ext (fun args r ps h hp=>by
 unfold ckS at h
 split at h
 ·split at h
  ·rename_i n d q y m c e2
   cases h
   obtain ⟨⟨P,rfl,rfl⟩,⟨rfl,C,rfl,rfl⟩,hk,-⟩:=hp
   rw [roadV_eq e2]
   exact ⟨extL_cons (ext_road n d q y P) (extL_cons (ext_xl (extL_cI C)) extL_nil),_,rfl,check_g n d q y P _ C hk⟩
  ·cases h
 ·cases h)
def isS:List AV→Option (Res1×List Prop):=fun args =>
 match args with
 | [a,.xl z k j e]=>match roadV a with
  | some (n,d,q,y,m,c)=>some (.val (.v (.int .i64 (icE n d q c m e k))),[IsT m c,IsC j k e,k≤1000])
  | none=>none
 | _=>none
def isO:OrcH:=extOrc 25 isS
theorem known_is:Known Try.prog (clsO isO):=known_ext (fun args r ps h hp=>by
 unfold isS at h
 split at h
 ·split at h
  ·rename_i n d q y m c e2
   cases h
   obtain ⟨⟨P,rfl,rfl⟩,⟨rfl,C,rfl,rfl⟩,hk,-⟩:=hp
   rw [roadV_eq e2]
   exact ⟨extL_cons (ext_road n d q y P) (extL_cons (ext_xl (extL_cI C)) extL_nil),_,rfl,isch_g n d q y P _ C hk⟩
  ·cases h
 ·cases h)
def ltSc:List AV→List AB→Option ((AV×List AB)×List Prop):=fun args xs =>
 match args with
 | [.agg l]=>match rdV l,xs with
  | some (n,d,q,y,m,c),[]=>some ((.sl 0 0 n.toNat n.toNat,[.cells (cI (tabL (litF c q (cI (flt (stnd l) m)) (flt (stnd l) m).length) n.toNat)) 3]),[IsRd l,roE n d q c m=0,(flt (stnd l) m).length=0∨0 < (flt (stnd l) m).length])
  | _,_=>none
 | _=>none
def ltOc:OrcH:=mOrc 42 ltSc
theorem lit_g (n:Nat) (d q:Int) (y:Value) (P:List (Int×Int×Int)) (st:Nat→Bool) (hE:roE n d q (cT P) P.length=0):GivesM Try.prog 42 [.agg (rdT [.v (.int .i64 n),.v (.int .i64 d),.v (.int .i64 q),.xl y P.length 3 (cT P)] (st))] [] (.sl 0 0 n n) [.cells (cI (tabL (litF (cT P) q (cI (flt (stM n d q y P st) P.length)) (flt (stM n d q y P st) P.length).length) n)) 3]:=by
 rcases Nat.eq_zero_or_pos (flt (stM n d q y P st) P.length).length with h0 | h0
 ·have:=lit_a n d q y P st hE h0
  rw [h0]
  exact this
 ·exact lit_b n d q y P st hE h0
theorem known_ltc:Known Try.prog (clsO ltOc):=known_m (fun args xs r ys ps h hp=>by
 unfold ltSc at h
 split at h
 ·split at h
  ·rename_i n d q y m c e
   cases h
   obtain ⟨⟨n,d,q,y,P,st,rfl⟩,hE,-⟩:=hp
   obtain ⟨rfl,rfl,rfl,rfl,rfl,rfl⟩:=rdV_eq e
   obtain ⟨k,rfl⟩:∃ k:Nat,n=((k:Nat):Int):=⟨n.toNat,by have h9:=(roE_zero hE).2.1.1; omega⟩
   refine ⟨fun x hx=>absurd hx List.not_mem_nil,fun x hx=>?_,lit_g k _ _ _ P st hE⟩
   rcases List.mem_cons.1 hx with rfl | hx
   ·exact freeB_cells (freeL_plain (cI_plain _))
   ·exact absurd hx List.not_mem_nil
  ·cases h
 ·cases h)
def rhS:List AV→List AB→Option ((AV×List AB)×List Prop):=fun args xs =>
 match args with
 | [a,.xl z k j e]=>match roadV a,xs with
  | some (n,d,q,y,m,c),[]=>some ((.v (.bool (hoB c q d e k n.toNat)),[]),[IsT m c,IsC j k e,icE n d q c m e k=0,k≤1000])
  | _,_=>none
 | _=>none
def rhO:OrcH:=mOrc 26 rhS
theorem known_rh:Known Try.prog (clsO rhO):=known_m (fun args xs r ys ps h hp=>by
 unfold rhS at h
 split at h
 ·split at h
  ·rename_i n d q y m c e2
   cases h
   obtain ⟨⟨P,rfl,rfl⟩,⟨rfl,C,rfl,rfl⟩,hE,hk,-⟩:=hp
   obtain ⟨n,rfl⟩:∃ k:Nat,n=((k:Nat):Int):=⟨n.toNat,by have h9:=(roE_zero (icE_zero hE).1).2.1.1; omega⟩
   rw [roadV_eq e2]
   exact ⟨fun x hx=>absurd hx List.not_mem_nil,fun x hx=>absurd hx List.not_mem_nil,rholds_g n d q y P _ C hE hk⟩
  ·cases h
 ·cases h)
end
end Go.Proofs.Ytnphldmnakbknaa
