import Derived.Test.YtnphldmnakbknaaT3
set_option maxHeartbeats 4000000
set_option linter.all false
/- By how many posts places are lit, of the reference. -/
namespace Go.Proofs.Ytnphldmnakbknaa
open Go Ev
noncomputable section
section
variable (C : List Int) (P : PL) (d : Int) (i j n : Nat) (q : Int) (y z : Value)
abbrev qT4_19:Nat×Ev.AV:=(1,(.xl (z) (C.length) 1 (cI C)))
abbrev qT4_17:Nat×Ev.AV:=(6,(.v (.int .i64 i)))
abbrev qT4_15:Nat×Ev.AV:=(7,(.v (.int .i64 (((j + 1):Nat):Int))))
abbrev qT4_11:Nat×Ev.AB:=(0,(.cells [(.v (.int .i64 n)),(.v (.int .i64 (d))),(.v (.int .i64 (q))),(.xl (y) (P.length) 3 (cT P))] 24))
abbrev qT4_18:=(cI (tabL (litG (cT P) q (cI C) i j) n))
abbrev qT4_1:Ev.Lit:=⟨[(qT4_19 C z),(2,(.ptr 0 0)),(5,(.sl 1 0 (n) (n))),(qT4_17 i),(qT4_15 j)],[],2,[(qT4_11 P d n q y),(1,(.cells (splice (qT4_18 C P i j n q) (0 + j * 1) [(.v (.int .i64 (intAt (qT4_18 C P i j n q) (0 + j * 1) + 1)))]) 3))]⟩
abbrev qT4_2:Ev.Lit:=⟨[(qT4_19 C z),(2,(.ptr 0 0)),(5,(.sl 1 0 (n) (n))),(qT4_17 i),(qT4_15 j)],[],2,[(qT4_11 P d n q y),(1,(.cells (cI (tabL (litG (cT P) q (cI C) i (j + 1)) n)) 3))]⟩
abbrev qT4_3:Ev.Lit:=⟨[(qT4_19 C z),(2,(.ptr 0 0)),(5,(.sl 1 0 (n) (n))),(qT4_17 i),(qT4_15 j)],[],2,[(qT4_11 P d n q y),(1,(.cells (qT4_18 C P i j n q) 3))]⟩
abbrev qT4_14:Nat×Ev.AB:=(1,(.cells (cI (tabL (litF (cT P) q (cI C) i) n)) 3))
abbrev qT4_4:Ev.Lit:=⟨[(qT4_19 C z),(2,(.ptr 0 0)),(5,(.sl 1 0 (n) (n))),(qT4_17 i),(7,(.v (.int .i64 (.ofNat 0))))],[],2,[(qT4_11 P d n q y),(qT4_14 C P i n q)]⟩
abbrev qT4_12:Nat×Ev.AB:=(1,(.cells (repL n (List.map AV.v (Value.int IntKind.i64 0).cells.toList)) 3))
abbrev qT4_5:Ev.Lit:=⟨[(qT4_19 C z),(2,(.ptr 0 0)),(5,(.sl 1 0 (n) (n))),(6,(.v (.int .i64 (.ofNat 0))))],[],2,[(qT4_11 P d n q y),(qT4_12 n)]⟩
abbrev qT4_16:Nat×Ev.AV:=(6,(.v (.int .i64 (((i + 1):Nat):Int))))
abbrev qT4_6:Ev.Lit:=⟨[(qT4_19 C z),(2,(.ptr 0 0)),(5,(.sl 1 0 (n) (n))),(qT4_16 i)],[],2,[(qT4_11 P d n q y),(1,(.cells (cI (tabL (litG (cT P) q (cI C) i n) n)) 3))]⟩
abbrev qT4_7:Ev.Lit:=⟨[(qT4_19 C z),(2,(.ptr 0 0)),(5,(.sl 1 0 (n) (n))),(qT4_17 i)],[],2,[(qT4_11 P d n q y),(1,(.cells (cI (tabL (litG (cT P) q (cI C) i (n)) n)) 3))]⟩
abbrev qT4_8:Ev.Lit:=⟨[(qT4_19 C z),(2,(.ptr 0 0)),(5,(.sl 1 0 (n) (n))),(qT4_17 i)],[],2,[(qT4_11 P d n q y),(qT4_14 C P i n q)]⟩
abbrev qT4_9:Ev.Lit:=⟨[(qT4_19 C z),(2,(.ptr 0 0)),(5,(.sl 1 0 (n) (n)))],[],2,[(qT4_11 P d n q y),(qT4_12 n)]⟩
abbrev qT4_10:Ev.Lit:=⟨[(qT4_19 C z),(2,(.ptr 0 0))],[],1,[(qT4_11 P d n q y)]⟩
abbrev qT4_13:Ev.AB:=(.cells (cI (tabL (litF (cT P) q (cI C) C.length) n)) 3)
end
def rtK1:Code:=bodyC Try.f43
def rtK3:Code:=tlC rtK1
def rtK6:Code:=tlC rtK3
def rtK9:Code:=tlC rtK6
def rtK10:Code:=(hdC rtK6)
def rtK12:Code:=tlC rtK10
def rtK16:Code:=loopC rtK12
def rtK19:Code:=tlC rtK16
def rtK22:Code:=tlC rtK19
def rtK24:Code:=blkB (hdC rtK19)
def rtK26:Code:=tlC rtK24
def rtK30:Code:=loopC rtK26
theorem rt_33 (n:Nat) (d q:Int) (y:Value) (P:PL) (z:Value) (C:List Int) (hE:icE n d q (cT P) P.length (cI C) C.length=0) (hC:C.length≤1000) (i:Nat) (hi1:i≤C.length) (hi2:True) (hqrt20_1:(ltI i C.length)=true) (hqrt32_1:(ltI n n)=false) (v:BaseW) (eb:EB) (ec:EC) (hs:LN):Goes pg 37 rtK22 ((qT4_7 C P d i n q y z)) (BaseW.H (bw v 0 eb ec) hs) (Hd.StepC pg 37 0 (fun i:{i:Nat // i≤C.length∧True}=>⟨[(qT4_19 C z),(2,(.ptr 0 0)),(5,(.sl 1 0 (n) (n))),(6,(.v (.int .i64 i.1)))],[],2,[(qT4_11 P d n q y),(1,(.cells (cI (tabL (litF (cT P) q (cI C) i.1) n)) 3))]⟩) (fun i:{i:Nat // i≤C.length∧True}=>C.length - i.1) rtK9 (bw v 0 eb ec) (OutM pg Try.f43 37 ((.sl 0 0 n n)) [(qT4_13 C P n q)] (bw v 0 eb ec)) (⟨i,hi1,hi2⟩:{i:Nat // i≤C.length∧True})):=by
 have hcl_C:=cI_len C
 obtain ⟨hR,hch⟩:=icE_zero hE
 obtain ⟨hm,⟨ha1,ha2,ha3⟩,hp⟩:=roE_zero hR
 have ghqrt20_1:=lT hqrt20_1
 have hxi:=hch.1 i (by omega)
 have ghqrt32_1:=lF hqrt32_1
 exact gL isN_e (gT cm (known_lg) 200 (T':=(qT4_6 C P d i n q y z)) (e:=.normal) (ps:=[inR .i64 (((i:Nat):Int) + 1)]) [.go,.go,.go] (by kernel_rfl) (by kernel_rfl) ⟨(by show -9223372036854775808≤_∧_≤9223372036854775807; constructor <;> omega),trivial⟩ rfl) (eO (⟨i + 1,by omega,trivial⟩) (by show C.length - (i + 1) < C.length - i; omega) (show ((qT4_6 C P d i n q y z):Ev.Lit)=⟨[(qT4_19 C z),(2,(.ptr 0 0)),(5,(.sl 1 0 (n) (n))),(qT4_16 i)],[],2,[(qT4_11 P d n q y),(1,(.cells (cI (tabL (litF (cT P) q (cI C) (i + 1)) n)) 3))]⟩ from by have hz_:=congrArg (fun (xq0:Ev.AB)=>(⟨[(qT4_19 C z),(2,(.ptr 0 0)),(5,(.sl 1 0 (n) (n))),(qT4_16 i)],[],2,[(qT4_11 P d n q y),(1,xq0)]⟩:Ev.Lit)) (congrArg (fun z=>Ev.AB.cells z 3) (show ((cI (tabL (litG (cT P) q (cI C) i n) n)):List Ev.AV)=(cI (tabL (litF (cT P) q (cI C) (i + 1)) n)) from by rw [litG_end])); exact hz_))
theorem rt_31 (n:Nat) (d q:Int) (y:Value) (P:PL) (z:Value) (C:List Int) (hE:icE n d q (cT P) P.length (cI C) C.length=0) (hC:C.length≤1000) (i:Nat) (hi1:i≤C.length) (hi2:True) (hqrt20_1:(ltI i C.length)=true) (j:Nat) (hj1:j≤n) (hj2:True) (v:BaseW) (eb:EB) (ec:EC) (hs:LN):Goes pg 37 rtK30 (⟨[(qT4_19 C z),(2,(.ptr 0 0)),(5,(.sl 1 0 (n) (n))),(qT4_17 i),(7,(.v (.int .i64 j)))],[],2,[(qT4_11 P d n q y),(1,(.cells (qT4_18 C P i j n q) 3))]⟩) (BaseW.H (bw v 0 eb ec) hs) (Hd.StepL 37 2 (fun j:{j:Nat // j≤n∧True}=>⟨[(qT4_19 C z),(2,(.ptr 0 0)),(5,(.sl 1 0 (n) (n))),(qT4_17 i),(7,(.v (.int .i64 j.1)))],[],2,[(qT4_11 P d n q y),(1,(.cells (cI (tabL (litG (cT P) q (cI C) i j.1) n)) 3))]⟩) (fun j:{j:Nat // j≤n∧True}=>n - j.1) (bw v 0 eb ec) (Hd.AfterB pg 37 1 rtK22 (bw v 0 eb ec) (Hd.StepC pg 37 0 (fun i:{i:Nat // i≤C.length∧True}=>⟨[(qT4_19 C z),(2,(.ptr 0 0)),(5,(.sl 1 0 (n) (n))),(6,(.v (.int .i64 i.1)))],[],2,[(qT4_11 P d n q y),(1,(.cells (cI (tabL (litF (cT P) q (cI C) i.1) n)) 3))]⟩) (fun i:{i:Nat // i≤C.length∧True}=>C.length - i.1) rtK9 (bw v 0 eb ec) (OutM pg Try.f43 37 ((.sl 0 0 n n)) [(qT4_13 C P n q)] (bw v 0 eb ec)) (⟨i,hi1,hi2⟩:{i:Nat // i≤C.length∧True}))) (⟨j,hj1,hj2⟩:{j:Nat // j≤n∧True})):=by
 have hcl_C:=cI_len C
 obtain ⟨hR,hch⟩:=icE_zero hE
 obtain ⟨hm,⟨ha1,ha2,ha3⟩,hp⟩:=roE_zero hR
 have ghqrt20_1:=lT hqrt20_1
 have hxi:=hch.1 i (by omega)
 rcases bE (ltI j n) with hqrt32_1 | hqrt32_1
 ·skip
  have ghqrt32_1:=lT hqrt32_1
  rcases bE (lgB (cT P) q (intAt (cI C) (i * 1)).toNat j) with hqrt32_2 | hqrt32_2
  ·skip
   exact gL isN_e (gT cm (known_lg) 200 (T':=(qT4_1 C P d i j n q y z)) (e:=.normal) (ps:=[ltI j n=true,i < C.length,loadL pg (cI C) (i * 1) 3=some (.v (.int .i64 (intAt (cI C) (i * 1)))),IsT P.length (cT P),roE n d q (cT P) P.length=0,0≤intAt (cI C) (i * 1)∧intAt (cI C) (i * 1) < ((P.length:Nat):Int),(0:Int)≤((j:Nat):Int)∧((j:Nat):Int)≤1000,lgB (cT P) q (intAt (cI C) (i * 1)).toNat j=true,j < n,loadL pg (qT4_18 C P i j n q) (0 + j * 1) 3=some (.v (.int .i64 (intAt (qT4_18 C P i j n q) (0 + j * 1)))),inR .i64 (intAt (qT4_18 C P i j n q) (0 + j * 1) + 1),j < n,0 + j * 1 + ([(.v (.int .i64 (intAt (qT4_18 C P i j n q) (0 + j * 1) + 1)))]:List AV).length≤((qT4_18 C P i j n q):List AV).length,inR .i64 (((j:Nat):Int) + 1)]) [.go,.go,.go,.go,.b true,.go,.go,.go,.sym,.sym,.go,.b true,.go,.go,.sym,.sym,.go,.sym,.sym,.go,.go,.go] (by kernel_rfl) (by kernel_rfl) ⟨hqrt32_1,(by omega),(by rw [Nat.mul_one]; exact cI_load (by omega) 3 (u3) rfl),⟨P,rfl,rfl⟩,hR,hxi,⟨by omega,by omega⟩,hqrt32_2,(by omega),(by rw [Nat.zero_add,Nat.mul_one]; exact cI_load (by rw [tabL_len]; omega) 3 (u3) rfl),(by rw [show 0 + j * 1=j by omega,tab_int0 _ (show j < n by omega)]; have h9:=litG_bd (c:=cT P) (q:=q) (xs:=cI C) (i:=i) (p:=j) j; show -9223372036854775808≤_∧_≤9223372036854775807; constructor <;> omega),(by omega),(by show 0 + j * 1 + 1≤_; rw [cI_len,tabL_len]; omega),(by show -9223372036854775808≤_∧_≤9223372036854775807; constructor <;> omega),trivial⟩ rfl) (Hd.en_tn (⟨j + 1,by omega,trivial⟩) (by show n - (j + 1) < n - j; omega) (show ((qT4_1 C P d i j n q y z):Ev.Lit)=(qT4_2 C P d i j n q y z) from by have hz_:=congrArg (fun (xq0:Ev.AB)=>(⟨[(qT4_19 C z),(2,(.ptr 0 0)),(5,(.sl 1 0 (n) (n))),(qT4_17 i),(qT4_15 j)],[],2,[(qT4_11 P d n q y),(1,xq0)]⟩:Ev.Lit)) (congrArg (fun z=>Ev.AB.cells z 3) (show ((splice (qT4_18 C P i j n q) (0 + j * 1) [(.v (.int .i64 (intAt (qT4_18 C P i j n q) (0 + j * 1) + 1)))]):List Ev.AV)=(cI (tabL (litG (cT P) q (cI C) i (j + 1)) n)) from by exact (litG_yes (c:=cT P) (q:=q) (xs:=cI C) (i:=i) (p:=j) (n:=n) (k:=0 + j * 1) (z:=0 + j * 1) (by rw [Nat.zero_add]; exact lgB_true.1 hqrt32_2) (by omega) (by omega) (by omega)))); exact hz_))
  ·skip
   exact gL isN_e (gT cm (known_lg) 200 (T':=(qT4_3 C P d i j n q y z)) (e:=.normal) (ps:=[ltI j n=true,i < C.length,loadL pg (cI C) (i * 1) 3=some (.v (.int .i64 (intAt (cI C) (i * 1)))),IsT P.length (cT P),roE n d q (cT P) P.length=0,0≤intAt (cI C) (i * 1)∧intAt (cI C) (i * 1) < ((P.length:Nat):Int),(0:Int)≤((j:Nat):Int)∧((j:Nat):Int)≤1000,lgB (cT P) q (intAt (cI C) (i * 1)).toNat j=false,inR .i64 (((j:Nat):Int) + 1)]) [.go,.go,.go,.go,.b true,.go,.go,.go,.sym,.sym,.go,.b false,.go,.go,.go] (by kernel_rfl) (by kernel_rfl) ⟨hqrt32_1,(by omega),(by rw [Nat.mul_one]; exact cI_load (by omega) 3 (u3) rfl),⟨P,rfl,rfl⟩,hR,hxi,⟨by omega,by omega⟩,hqrt32_2,(by show -9223372036854775808≤_∧_≤9223372036854775807; constructor <;> omega),trivial⟩ rfl) (Hd.en_tn (⟨j + 1,by omega,trivial⟩) (by show n - (j + 1) < n - j; omega) (show ((qT4_3 C P d i j n q y z):Ev.Lit)=(qT4_2 C P d i j n q y z) from by have hz_:=congrArg (fun (xq0:Ev.AB)=>(⟨[(qT4_19 C z),(2,(.ptr 0 0)),(5,(.sl 1 0 (n) (n))),(qT4_17 i),(qT4_15 j)],[],2,[(qT4_11 P d n q y),(1,xq0)]⟩:Ev.Lit)) (congrArg (fun z=>Ev.AB.cells z 3) (show ((qT4_18 C P i j n q):List Ev.AV)=(cI (tabL (litG (cT P) q (cI C) i (j + 1)) n)) from by exact (litG_no (c:=cT P) (q:=q) (xs:=cI C) (i:=i) (p:=j) (n:=n) (by rw [Nat.zero_add]; exact lgB_f hqrt32_2)))); exact hz_))
 ·skip
  have ghqrt32_1:=lF hqrt32_1
  obtain rfl:n=j:=by omega
  exact gL isX_e (gT cm (known_lg) 200 (T':=(qT4_7 C P d i n q y z)) (e:=.exit 2) (ps:=[ltI n n=false]) [.go,.go,.go,.go,.b false] (by kernel_rfl) (by kernel_rfl) ⟨hqrt32_1,trivial⟩ rfl) (Hd.en_tx (Hd.en_bn (rt_33 n d q y P z C hE hC i hi1 hi2 hqrt20_1 hqrt32_1 v eb ec hs)))
theorem rt_29 (n:Nat) (d q:Int) (y:Value) (P:PL) (z:Value) (C:List Int) (hE:icE n d q (cT P) P.length (cI C) C.length=0) (hC:C.length≤1000) (i:Nat) (hi1:i≤C.length) (hi2:True) (hqrt20_1:(ltI i C.length)=true) (v:BaseW) (eb:EB) (ec:EC) (hs:LN):Goes pg 37 rtK26 (⟨[(1,(.xl (z) (C.length) 1 (cI C))),(2,(.ptr 0 0)),(5,(.sl 1 0 (n) (n))),(6,(.v (.int .i64 i))),(7,(.v (.int .i64 (.ofNat 0))))],[],2,[(0,(.cells [(.v (.int .i64 n)),(.v (.int .i64 (d))),(.v (.int .i64 (q))),(.xl (y) (P.length) 3 (cT P))] 24)),(1,(.cells (cI (tabL (litF (cT P) q (cI C) i) n)) 3))]⟩) (BaseW.H (bw v 0 eb ec) hs) (Hd.AfterB pg 37 1 rtK22 (bw v 0 eb ec) (Hd.StepC pg 37 0 (fun i:{i:Nat // i≤C.length∧True}=>⟨[(1,(.xl (z) (C.length) 1 (cI C))),(2,(.ptr 0 0)),(5,(.sl 1 0 (n) (n))),(6,(.v (.int .i64 i.1)))],[],2,[(0,(.cells [(.v (.int .i64 n)),(.v (.int .i64 (d))),(.v (.int .i64 (q))),(.xl (y) (P.length) 3 (cT P))] 24)),(1,(.cells (cI (tabL (litF (cT P) q (cI C) i.1) n)) 3))]⟩) (fun i:{i:Nat // i≤C.length∧True}=>C.length - i.1) rtK9 (bw v 0 eb ec) (OutM pg Try.f43 37 ((.sl 0 0 n n)) [(.cells (cI (tabL (litF (cT P) q (cI C) C.length) n)) 3)] (bw v 0 eb ec)) (⟨i,hi1,hi2⟩:{i:Nat // i≤C.length∧True}))):=by
 have hcl_C:=cI_len C
 obtain ⟨hR,hch⟩:=icE_zero hE
 obtain ⟨hm,⟨ha1,ha2,ha3⟩,hp⟩:=roE_zero hR
 have ghqrt20_1:=lT hqrt20_1
 have hxi:=hch.1 i (by omega)
 rw [show (⟨[(1,(.xl (z) (C.length) 1 (cI C))),(2,(.ptr 0 0)),(5,(.sl 1 0 (n) (n))),(6,(.v (.int .i64 i))),(7,(.v (.int .i64 (.ofNat 0))))],[],2,[(0,(.cells [(.v (.int .i64 n)),(.v (.int .i64 (d))),(.v (.int .i64 (q))),(.xl (y) (P.length) 3 (cT P))] 24)),(1,(.cells (cI (tabL (litF (cT P) q (cI C) i) n)) 3))]⟩:Ev.Lit)=⟨[(1,(.xl (z) (C.length) 1 (cI C))),(2,(.ptr 0 0)),(5,(.sl 1 0 (n) (n))),(6,(.v (.int .i64 i))),(7,(.v (.int .i64 0)))],[],2,[(0,(.cells [(.v (.int .i64 n)),(.v (.int .i64 (d))),(.v (.int .i64 (q))),(.xl (y) (P.length) 3 (cT P))] 24)),(1,(.cells (cI (tabL (litG (cT P) q (cI C) i 0) n)) 3))]⟩ from by (rw [litR_start]; rfl)]
 exact Hd.goes_loopL (id:=2) (by kernel_rfl) (by kernel_rfl) (fun j:{j:Nat // j≤n∧True}=>⟨[(1,(.xl (z) (C.length) 1 (cI C))),(2,(.ptr 0 0)),(5,(.sl 1 0 (n) (n))),(6,(.v (.int .i64 i))),(7,(.v (.int .i64 j.1)))],[],2,[(0,(.cells [(.v (.int .i64 n)),(.v (.int .i64 (d))),(.v (.int .i64 (q))),(.xl (y) (P.length) 3 (cT P))] 24)),(1,(.cells (cI (tabL (litG (cT P) q (cI C) i j.1) n)) 3))]⟩) (fun j:{j:Nat // j≤n∧True}=>n - j.1) (fun ix_ hs=>rt_31 n d q y P z C hE hC i hi1 hi2 hqrt20_1 ix_.1 ix_.2.1 ix_.2.2 v eb ec hs) ⟨0,Nat.zero_le _,trivial⟩ hs
theorem rt_28 (n:Nat) (d q:Int) (y:Value) (P:PL) (z:Value) (C:List Int) (hE:icE n d q (cT P) P.length (cI C) C.length=0) (hC:C.length≤1000) (i:Nat) (hi1:i≤C.length) (hi2:True) (hqrt20_1:(ltI i C.length)=true) (v:BaseW) (eb:EB) (ec:EC) (hs:LN):Goes pg 37 rtK26 ((qT4_4 C P d i n q y z)) (BaseW.H (bw v 0 eb ec) hs) (Hd.AfterB pg 37 1 rtK22 (bw v 0 eb ec) (Hd.StepC pg 37 0 (fun i:{i:Nat // i≤C.length∧True}=>⟨[(qT4_19 C z),(2,(.ptr 0 0)),(5,(.sl 1 0 (n) (n))),(6,(.v (.int .i64 i.1)))],[],2,[(qT4_11 P d n q y),(1,(.cells (cI (tabL (litF (cT P) q (cI C) i.1) n)) 3))]⟩) (fun i:{i:Nat // i≤C.length∧True}=>C.length - i.1) rtK9 (bw v 0 eb ec) (OutM pg Try.f43 37 ((.sl 0 0 n n)) [(qT4_13 C P n q)] (bw v 0 eb ec)) (⟨i,hi1,hi2⟩:{i:Nat // i≤C.length∧True}))):=by
 exact rt_29 n d q y P z C hE hC i hi1 hi2 hqrt20_1 v eb ec hs
theorem rt_25 (n:Nat) (d q:Int) (y:Value) (P:PL) (z:Value) (C:List Int) (hE:icE n d q (cT P) P.length (cI C) C.length=0) (hC:C.length≤1000) (i:Nat) (hi1:i≤C.length) (hi2:True) (hqrt20_1:(ltI i C.length)=true) (v:BaseW) (eb:EB) (ec:EC) (hs:LN):Goes pg 37 rtK24 ((qT4_8 C P d i n q y z)) (BaseW.H (bw v 0 eb ec) hs) (Hd.AfterB pg 37 1 rtK22 (bw v 0 eb ec) (Hd.StepC pg 37 0 (fun i:{i:Nat // i≤C.length∧True}=>⟨[(qT4_19 C z),(2,(.ptr 0 0)),(5,(.sl 1 0 (n) (n))),(6,(.v (.int .i64 i.1)))],[],2,[(qT4_11 P d n q y),(1,(.cells (cI (tabL (litF (cT P) q (cI C) i.1) n)) 3))]⟩) (fun i:{i:Nat // i≤C.length∧True}=>C.length - i.1) rtK9 (bw v 0 eb ec) (OutM pg Try.f43 37 ((.sl 0 0 n n)) [(qT4_13 C P n q)] (bw v 0 eb ec)) (⟨i,hi1,hi2⟩:{i:Nat // i≤C.length∧True}))):=by
 have hcl_C:=cI_len C
 obtain ⟨hR,hch⟩:=icE_zero hE
 obtain ⟨hm,⟨ha1,ha2,ha3⟩,hp⟩:=roE_zero hR
 have ghqrt20_1:=lT hqrt20_1
 have hxi:=hch.1 i (by omega)
 refine gS (by kernel_rfl) ?_
 exact gL isN_e (gT cm (known_lg) 200 (T':=(qT4_4 C P d i n q y z)) (e:=.normal) (ps:=[]) [.go] (by kernel_rfl) (by kernel_rfl) trivial rfl) (Hd.en_n (rt_28 n d q y P z C hE hC i hi1 hi2 hqrt20_1 v eb ec hs))
theorem rt_23 (n:Nat) (d q:Int) (y:Value) (P:PL) (z:Value) (C:List Int) (hE:icE n d q (cT P) P.length (cI C) C.length=0) (hC:C.length≤1000) (i:Nat) (hi1:i≤C.length) (hi2:True) (hqrt20_1:(ltI i C.length)=true) (v:BaseW) (eb:EB) (ec:EC) (hs:LN):Goes pg 37 (hdC rtK19) ((qT4_8 C P d i n q y z)) (BaseW.H (bw v 0 eb ec) hs) (Hd.AfterN pg 37 rtK22 (bw v 0 eb ec) (Hd.StepC pg 37 0 (fun i:{i:Nat // i≤C.length∧True}=>⟨[(qT4_19 C z),(2,(.ptr 0 0)),(5,(.sl 1 0 (n) (n))),(6,(.v (.int .i64 i.1)))],[],2,[(qT4_11 P d n q y),(1,(.cells (cI (tabL (litF (cT P) q (cI C) i.1) n)) 3))]⟩) (fun i:{i:Nat // i≤C.length∧True}=>C.length - i.1) rtK9 (bw v 0 eb ec) (OutM pg Try.f43 37 ((.sl 0 0 n n)) [(qT4_13 C P n q)] (bw v 0 eb ec)) (⟨i,hi1,hi2⟩:{i:Nat // i≤C.length∧True}))):=by
 exact Hd.goes_blkA (id:=1) (by kernel_rfl) (by kernel_rfl) (rt_25 n d q y P z C hE hC i hi1 hi2 hqrt20_1 v eb ec hs)
theorem rt_21 (n:Nat) (d q:Int) (y:Value) (P:PL) (z:Value) (C:List Int) (hE:icE n d q (cT P) P.length (cI C) C.length=0) (hC:C.length≤1000) (i:Nat) (hi1:i≤C.length) (hi2:True) (hqrt20_1:(ltI i C.length)=true) (v:BaseW) (eb:EB) (ec:EC) (hs:LN):Goes pg 37 rtK19 ((qT4_8 C P d i n q y z)) (BaseW.H (bw v 0 eb ec) hs) (Hd.StepC pg 37 0 (fun i:{i:Nat // i≤C.length∧True}=>⟨[(qT4_19 C z),(2,(.ptr 0 0)),(5,(.sl 1 0 (n) (n))),(6,(.v (.int .i64 i.1)))],[],2,[(qT4_11 P d n q y),(1,(.cells (cI (tabL (litF (cT P) q (cI C) i.1) n)) 3))]⟩) (fun i:{i:Nat // i≤C.length∧True}=>C.length - i.1) rtK9 (bw v 0 eb ec) (OutM pg Try.f43 37 ((.sl 0 0 n n)) [(qT4_13 C P n q)] (bw v 0 eb ec)) (⟨i,hi1,hi2⟩:{i:Nat // i≤C.length∧True})):=by
 exact gS (by kernel_rfl) (rt_23 n d q y P z C hE hC i hi1 hi2 hqrt20_1 v eb ec hs)
theorem rt_35 (n:Nat) (d q:Int) (y:Value) (P:PL) (z:Value) (C:List Int) (hE:icE n d q (cT P) P.length (cI C) C.length=0) (hC:C.length≤1000) (h0b:True) (hqrt20_1:(ltI C.length C.length)=false) (v:BaseW) (eb:EB) (ec:EC) (hs:LN):Goes pg 37 rtK9 (⟨[(5,(.sl 1 0 (n) (n)))],[],2,[(1,(.cells (cI (tabL (litF (cT P) q (cI C) (C.length)) n)) 3))]⟩) (BaseW.H (bw v 0 eb ec) hs) (OutM pg Try.f43 37 ((.sl 0 0 n n)) [(qT4_13 C P n q)] (bw v 0 eb ec)):=by
 have hcl_C:=cI_len C
 obtain ⟨hR,hch⟩:=icE_zero hE
 obtain ⟨hm,⟨ha1,ha2,ha3⟩,hp⟩:=roE_zero hR
 have ghqrt20_1:=lF hqrt20_1
 exact gL isR_e (gC cm (known_lg) 200 (T':=⟨[(4,(.sl 0 0 (n) (n)))],[],1,[(0,(qT4_13 C P n q))]⟩) (e:=.ret) (m:=2) (ps:=[]) [.go,.go] [1] [(.sl 1 0 (n) (n))] [(qT4_13 C P n q)] (by kernel_rfl) (by kernel_rfl) trivial rfl rfl (by decide) rfl ⟨nr_sl rfl,trivial⟩ ⟨⟨by show 0 < 1; decide,nrb_cells (nrl_plain (cI_plain _))⟩,trivial⟩) (en_eqM (r:=(.sl 0 0 (n) (n))) (ys:=[(qT4_13 C P n q)]) (by rfl) (by rfl) (en_retM (by kernel_rfl) (by kernel_rfl) rfl (.inr rfl)))
theorem rt_18 (n:Nat) (d q:Int) (y:Value) (P:PL) (z:Value) (C:List Int) (hE:icE n d q (cT P) P.length (cI C) C.length=0) (hC:C.length≤1000) (i:Nat) (hi1:i≤C.length) (hi2:True) (v:BaseW) (eb:EB) (ec:EC) (hs:LN):Goes pg 37 rtK16 (⟨[(qT4_19 C z),(2,(.ptr 0 0)),(5,(.sl 1 0 (n) (n))),(6,(.v (.int .i64 i)))],[],2,[(qT4_11 P d n q y),(qT4_14 C P i n q)]⟩) (BaseW.H (bw v 0 eb ec) hs) (Hd.StepC pg 37 0 (fun i:{i:Nat // i≤C.length∧True}=>⟨[(qT4_19 C z),(2,(.ptr 0 0)),(5,(.sl 1 0 (n) (n))),(6,(.v (.int .i64 i.1)))],[],2,[(qT4_11 P d n q y),(1,(.cells (cI (tabL (litF (cT P) q (cI C) i.1) n)) 3))]⟩) (fun i:{i:Nat // i≤C.length∧True}=>C.length - i.1) rtK9 (bw v 0 eb ec) (OutM pg Try.f43 37 ((.sl 0 0 n n)) [(qT4_13 C P n q)] (bw v 0 eb ec)) (⟨i,hi1,hi2⟩:{i:Nat // i≤C.length∧True})):=by
 have hcl_C:=cI_len C
 obtain ⟨hR,hch⟩:=icE_zero hE
 obtain ⟨hm,⟨ha1,ha2,ha3⟩,hp⟩:=roE_zero hR
 refine gS (by kernel_rfl) ?_
 rcases bE (ltI i C.length) with hqrt20_1 | hqrt20_1
 ·skip
  have ghqrt20_1:=lT hqrt20_1
  have hxi:=hch.1 i (by omega)
  exact gL isN_e (gT cm (known_lg) 200 (T':=(qT4_8 C P d i n q y z)) (e:=.normal) (ps:=[ltI i C.length=true]) [.go,.go,.go,.go,.b true] (by kernel_rfl) (by kernel_rfl) ⟨hqrt20_1,trivial⟩ rfl) (Hd.en_n (rt_21 n d q y P z C hE hC i hi1 hi2 hqrt20_1 v eb ec hs))
 ·skip
  have ghqrt20_1:=lF hqrt20_1
  obtain rfl:i=C.length:=by omega
  exact gL isX_e (gT cm (known_lg) 200 (T':=⟨[(5,(.sl 1 0 (n) (n)))],[],2,[(1,(.cells (cI (tabL (litF (cT P) q (cI C) (C.length)) n)) 3))]⟩) (e:=.exit 0) (ps:=[ltI C.length C.length=false]) [.go,.go,.go,.go,.b false] (by kernel_rfl) (by kernel_rfl) ⟨hqrt20_1,trivial⟩ rfl) (Hd.en_o (by intro h; cases h) (Hd.en_sx (rt_35 n d q y P z C hE hC hi2  hqrt20_1 v eb ec hs)))
theorem rt_15 (n:Nat) (d q:Int) (y:Value) (P:PL) (z:Value) (C:List Int) (hE:icE n d q (cT P) P.length (cI C) C.length=0) (hC:C.length≤1000) (v:BaseW) (eb:EB) (ec:EC) (hs:LN):Goes pg 37 rtK12 ((qT4_5 C P d n q y z)) (BaseW.H (bw v 0 eb ec) hs) (Hd.AfterN pg 37 rtK9 (bw v 0 eb ec) (OutM pg Try.f43 37 ((.sl 0 0 n n)) [(qT4_13 C P n q)] (bw v 0 eb ec))):=by
 have hcl_C:=cI_len C
 obtain ⟨hR,hch⟩:=icE_zero hE
 obtain ⟨hm,⟨ha1,ha2,ha3⟩,hp⟩:=roE_zero hR
 rw [show ((qT4_5 C P d n q y z):Ev.Lit)=⟨[(qT4_19 C z),(2,(.ptr 0 0)),(5,(.sl 1 0 (n) (n))),(6,(.v (.int .i64 0)))],[],2,[(qT4_11 P d n q y),(1,(.cells (cI (tabL (litF (cT P) q (cI C) 0) n)) 3))]⟩ from by (rw [← lit_rep]; rfl)]
 exact Hd.goes_loopA (id:=0) (by kernel_rfl) (by kernel_rfl) (fun i:{i:Nat // i≤C.length∧True}=>⟨[(qT4_19 C z),(2,(.ptr 0 0)),(5,(.sl 1 0 (n) (n))),(6,(.v (.int .i64 i.1)))],[],2,[(qT4_11 P d n q y),(1,(.cells (cI (tabL (litF (cT P) q (cI C) i.1) n)) 3))]⟩) (fun i:{i:Nat // i≤C.length∧True}=>C.length - i.1) (fun ix_ hs=>rt_18 n d q y P z C hE hC ix_.1 ix_.2.1 ix_.2.2 v eb ec hs) ⟨0,Nat.zero_le _,trivial⟩ hs
theorem rt_14 (n:Nat) (d q:Int) (y:Value) (P:PL) (z:Value) (C:List Int) (hE:icE n d q (cT P) P.length (cI C) C.length=0) (hC:C.length≤1000) (v:BaseW) (eb:EB) (ec:EC) (hs:LN):Goes pg 37 rtK12 ((qT4_5 C P d n q y z)) (BaseW.H (bw v 0 eb ec) hs) (Hd.AfterN pg 37 rtK9 (bw v 0 eb ec) (OutM pg Try.f43 37 ((.sl 0 0 n n)) [(qT4_13 C P n q)] (bw v 0 eb ec))):=by
 exact rt_15 n d q y P z C hE hC v eb ec hs
theorem rt_11 (n:Nat) (d q:Int) (y:Value) (P:PL) (z:Value) (C:List Int) (hE:icE n d q (cT P) P.length (cI C) C.length=0) (hC:C.length≤1000) (v:BaseW) (eb:EB) (ec:EC) (hs:LN):Goes pg 37 rtK10 ((qT4_9 C P d n q y z)) (BaseW.H (bw v 0 eb ec) hs) (Hd.AfterN pg 37 rtK9 (bw v 0 eb ec) (OutM pg Try.f43 37 ((.sl 0 0 n n)) [(qT4_13 C P n q)] (bw v 0 eb ec))):=by
 have hcl_C:=cI_len C
 obtain ⟨hR,hch⟩:=icE_zero hE
 obtain ⟨hm,⟨ha1,ha2,ha3⟩,hp⟩:=roE_zero hR
 refine gS (by kernel_rfl) ?_
 exact gL isN_e (gT cm (known_lg) 200 (T':=(qT4_5 C P d n q y z)) (e:=.normal) (ps:=[]) [.go] (by kernel_rfl) (by kernel_rfl) trivial rfl) (Hd.en_n (rt_14 n d q y P z C hE hC v eb ec hs))
theorem rt_8 (n:Nat) (d q:Int) (y:Value) (P:PL) (z:Value) (C:List Int) (hE:icE n d q (cT P) P.length (cI C) C.length=0) (hC:C.length≤1000) (v:BaseW) (eb:EB) (ec:EC) (hs:LN):Goes pg 37 rtK6 ((qT4_9 C P d n q y z)) (BaseW.H (bw v 0 eb ec) hs) (OutM pg Try.f43 37 ((.sl 0 0 n n)) [(qT4_13 C P n q)] (bw v 0 eb ec)):=by
 exact gS (by kernel_rfl) (rt_11 n d q y P z C hE hC v eb ec hs)
theorem rt_5 (n:Nat) (d q:Int) (y:Value) (P:PL) (z:Value) (C:List Int) (hE:icE n d q (cT P) P.length (cI C) C.length=0) (hC:C.length≤1000) (v:BaseW) (eb:EB) (ec:EC) (hs:LN):Goes pg 37 rtK3 ((qT4_10 C P d n q y z)) (BaseW.H (bw v 0 eb ec) hs) (OutM pg Try.f43 37 ((.sl 0 0 n n)) [(qT4_13 C P n q)] (bw v 0 eb ec)):=by
 have hcl_C:=cI_len C
 obtain ⟨hR,hch⟩:=icE_zero hE
 obtain ⟨hm,⟨ha1,ha2,ha3⟩,hp⟩:=roE_zero hR
 refine gS (by kernel_rfl) ?_
 exact gL isN_e (gT cm (known_lg) 200 (T':=(qT4_9 C P d n q y z)) (e:=.normal) (ps:=[n≤n,n≤1000000]) [.go,.go,.sym,.go] (by kernel_rfl) (by kernel_rfl) ⟨(by omega),(by omega),trivial⟩ rfl) (Hd.en_n (rt_8 n d q y P z C hE hC v eb ec hs))
theorem rt_2 (n:Nat) (d q:Int) (y:Value) (P:PL) (z:Value) (C:List Int) (hE:icE n d q (cT P) P.length (cI C) C.length=0) (hC:C.length≤1000) (v:BaseW) (eb:EB) (ec:EC) (hs:LN):Goes pg 37 rtK1 (⟨[(0,(.agg [.v (.int .i64 n),.v (.int .i64 d),.v (.int .i64 q),.xl y P.length 3 (cT P)])),(1,(.xl z C.length 1 (cI C)))],[],0,[]⟩) (BaseW.H (bw v 0 eb ec) hs) (OutM pg Try.f43 37 ((.sl 0 0 n n)) [(qT4_13 C P n q)] (bw v 0 eb ec)):=by
 have hcl_C:=cI_len C
 obtain ⟨hR,hch⟩:=icE_zero hE
 obtain ⟨hm,⟨ha1,ha2,ha3⟩,hp⟩:=roE_zero hR
 refine gS (by kernel_rfl) ?_
 exact gL isN_e (gT cm (known_lg) 200 (T':=(qT4_10 C P d n q y z)) (e:=.normal) (ps:=[]) [.go,.go] (by kernel_rfl) (by kernel_rfl) trivial rfl) (Hd.en_n (rt_5 n d q y P z C hE hC v eb ec hs))
theorem rlit_g (n:Nat) (d q:Int) (y:Value) (P:PL) (z:Value) (C:List Int) (hE:icE n d q (cT P) P.length (cI C) C.length=0) (hC:C.length≤1000):GivesM pg 43 [(.agg [.v (.int .i64 n),.v (.int .i64 d),.v (.int .i64 q),.xl y P.length 3 (cT P)]),(.xl z C.length 1 (cI C))] [] ((.sl 0 0 n n)) [(qT4_13 C P n q)] :=
 givesM_parts 37 (by kernel_rfl) Try.func43 (by kernel_rfl) (by kernel_rfl) (by kernel_rfl) (fun v eb ec=>goes_less (by kernel_rfl) (by kernel_rfl) (by kernel_rfl) (by kernel_rfl) (rt_2 n d q y P z C hE hC v eb ec []))
end
end Go.Proofs.Ytnphldmnakbknaa
