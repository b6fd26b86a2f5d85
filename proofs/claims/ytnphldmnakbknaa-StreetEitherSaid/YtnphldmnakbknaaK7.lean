import Derived.Test.YtnphldmnakbknaaK6
set_option maxHeartbeats 4000000
set_option linter.all false
/- CheckDark of ours. -/
namespace Go.Proofs.Ytnphldmnakbknaa
open Go Ev
noncomputable section
theorem iRK7 {a:Int} (h : -9223372036854775808≤a) (k:a≤9223372036854775807):inR .i64 a:=⟨h,k⟩
section
variable (C D : List Int) (P : PL) (d : Int) (i n : Nat) (nI p q : Int) (y z z0 : Value)
abbrev qK7_13:Nat×Ev.AV:=(36,(.xl (z0) (D.length) 1 (cI D)))
abbrev qK7_10:Nat×Ev.AV:=(37,(.v (.int .i64 D.length)))
abbrev qK7_11:Nat×Ev.AV:=(38,(.v (.int .i64 (((i + 1):Nat):Int))))
abbrev qK7_1:Ev.Lit:=⟨[(2,(.v (.int .i64 (p)))),(10,(.ptr 1 0)),(qK7_13 D z0),(qK7_10 D),(qK7_11 i)],[],2,[(1,(.cells (splice (rdT [(.v (.int .i64 n)),(.v (.int .i64 (d))),(.v (.int .i64 (q))),(.xl (y) (P.length) 3 (cT P))] (stX (stC (cI C) C.length) (cI D) i)) (0 + 4 + (intAt (cI D) (i * 1)).toNat * 1) [(.v (.bool .false))]) 67))]⟩
abbrev qK7_7:Nat×Ev.AB:=(1,(.cells (rdT [(.v (.int .i64 n)),(.v (.int .i64 (d))),(.v (.int .i64 (q))),(.xl (y) (P.length) 3 (cT P))] (stC (cI C) C.length)) 67))
abbrev qK7_2:Ev.Lit:=⟨[(2,(.v (.int .i64 (p)))),(10,(.ptr 1 0)),(qK7_13 D z0),(qK7_10 D),(38,(.v (.int .i64 (.ofNat 0))))],[],2,[(qK7_7 C P d n q y)]⟩
abbrev qK7_15:Nat×Ev.AV:=(1,(.xl (z) (C.length) 1 (cI C)))
abbrev qK7_14:Nat×Ev.AV:=(3,(.xl (z0) (D.length) 1 (cI D)))
abbrev qK7_3:Ev.Lit:=⟨[(qK7_15 C z),(2,(.v (.int .i64 (p)))),(qK7_14 D z0),(4,(.ptr 0 0))],[],1,[(0,(.cells [(.v (.int .i64 n)),(.v (.int .i64 (d))),(.v (.int .i64 (q))),(.xl (y) (P.length) 3 (cT P))] 24))]⟩
abbrev qK7_4:Ev.Lit:=⟨[(2,(.v (.int .i64 (p)))),(qK7_14 D z0),(10,(.ptr 1 0))],[],2,[(qK7_7 C P d n q y)]⟩
abbrev qK7_5:Ev.Lit:=⟨[(qK7_15 C z),(2,(.v (.int .i64 (p)))),(qK7_14 D z0),(4,(.ptr 0 0))],[],1,[(0,(.cells [(.v (.int .i64 (nI))),(.v (.int .i64 (d))),(.v (.int .i64 (q))),(.xl (y) (P.length) 3 (cT P))] 24))]⟩
abbrev qK7_6:Ev.Lit:=⟨[(2,(.v (.int .i64 (p)))),(10,(.ptr 1 0))],[],2,[(1,(.cells (rdT [(.v (.int .i64 n)),(.v (.int .i64 (d))),(.v (.int .i64 (q))),(.xl (y) (P.length) 3 (cT P))] (stX (stC (cI C) C.length) (cI D) (D.length))) 67))]⟩
abbrev qK7_8:=(cdE n d q (cT P) P.length (cI C) C.length p (cI D) D.length)
abbrev qK7_9:=(eqI (icE n d q (cT P) P.length (cI C) C.length) 0)
abbrev qK7_12:=(icE nI d q (cT P) P.length (cI C) C.length)
end
def odbK1:Code:=bodyC Try.f22
def odbK3:Code:=tlC odbK1
theorem odb_5 (nI d q:Int) (y:Value) (P:PL) (z:Value) (C:List Int) (p:Int) (z0:Value) (D:List Int) (hE:¬ icE nI d q (cT P) P.length (cI C) C.length=0) (hC:C.length≤1000) (hD:D.length≤1000) (w:World) (hs:LN):Goes pg 52 odbK3 ((qK7_5 C D P d nI p q y z z0)) (BaseW.H w hs) (OutH pg Try.f22 52 (.int .i64 (cdE nI d q (cT P) P.length (cI C) C.length p (cI D) D.length)) w):=by
 have hcl_C:=cI_len C
 have hcl_D:=cI_len D
 refine gS (by kernel_rfl) ?_
 rcases bE (eqI (qK7_12 C P d nI q) 0) with hqodb7_1 | hqodb7_1
 ·skip
  have ghqodb7_1:=eqI_true hqodb7_1
  exact absurd (eqI_true hqodb7_1) hE
 ·skip
  have ghqodb7_1:=eqI_false hqodb7_1
  exact gL isR_e (gT cm (known_o3) 200 (T':=⟨[(8,(.v (.int .i64 (qK7_12 C P d nI q))))],[],1,[]⟩) (e:=.ret) (ps:=[IsT P.length (cT P),IsC 1 C.length (cI C),C.length≤1000,(!eqI (qK7_12 C P d nI q) 0)=true]) [.go,.go,.go,.go,.go,.b true,.go,.go] (by kernel_rfl) (by kernel_rfl) ⟨⟨P,rfl,rfl⟩,⟨rfl,_,rfl,rfl⟩,hC,(by rw [hqodb7_1]; rfl),trivial⟩ rfl) (Hd.en_o (by intro h; cases h) (Hd.en_eq (r:=(.int .i64 (qK7_12 C P d nI q))) (by rw [cdE_bad hE]) (Hd.en_ret (v:=(.v (.int .i64 (qK7_12 C P d nI q)))) (by kernel_rfl) rfl)))
theorem odb_2 (nI d q:Int) (y:Value) (P:PL) (z:Value) (C:List Int) (p:Int) (z0:Value) (D:List Int) (hE:¬ icE nI d q (cT P) P.length (cI C) C.length=0) (hC:C.length≤1000) (hD:D.length≤1000) (w:World) (hs:LN):Goes pg 52 odbK1 (⟨[(0,(.agg [.v (.int .i64 nI),.v (.int .i64 d),.v (.int .i64 q),.xl y P.length 3 (cT P)])),(1,(.xl z C.length 1 (cI C))),(2,(.v (.int .i64 p))),(3,(.xl z0 D.length 1 (cI D)))],[],0,[]⟩) (BaseW.H w hs) (OutH pg Try.f22 52 (.int .i64 (cdE nI d q (cT P) P.length (cI C) C.length p (cI D) D.length)) w):=by
 have hcl_C:=cI_len C
 have hcl_D:=cI_len D
 refine gS (by kernel_rfl) ?_
 exact gL isN_e (gT cm (known_o3) 200 (T':=(qK7_5 C D P d nI p q y z z0)) (e:=.normal) (ps:=[]) [.go,.go] (by kernel_rfl) (by kernel_rfl) trivial rfl) (Hd.en_n (odb_5 nI d q y P z C p z0 D hE hC hD w hs))
theorem odb (nI d q:Int) (y:Value) (P:PL) (z:Value) (C:List Int) (p:Int) (z0:Value) (D:List Int) (hE:¬ icE nI d q (cT P) P.length (cI C) C.length=0) (hC:C.length≤1000) (hD:D.length≤1000):GivesA pg 22 [(.agg [.v (.int .i64 nI),.v (.int .i64 d),.v (.int .i64 q),.xl y P.length 3 (cT P)]),(.xl z C.length 1 (cI C)),(.v (.int .i64 p)),(.xl z0 D.length 1 (cI D))] (.int .i64 (cdE nI d q (cT P) P.length (cI C) C.length p (cI D) D.length)) :=
 givesA_partsH 52 Try.func22 (by kernel_rfl) (by kernel_rfl) (by kernel_rfl) (fun w=>goes_less (by kernel_rfl) (by kernel_rfl) (by kernel_rfl) (by kernel_rfl) (odb_2 nI d q y P z C p z0 D hE hC hD w []))
def odgK1:Code:=bodyC Try.f22
def odgK3:Code:=tlC odgK1
def odgK6:Code:=tlC odgK3
def odgK9:Code:=tlC odgK6
def odgK12:Code:=tlC odgK9
def odgK15:Code:=tlC odgK12
def odgK16:Code:=(hdC odgK12)
def odgK18:Code:=tlC odgK16
def odgK22:Code:=loopC odgK18
theorem odg_25 (n:Nat) (d q:Int) (y:Value) (P:PL) (z:Value) (C:List Int) (p:Int) (z0:Value) (D:List Int) (hE:icE n d q (cT P) P.length (cI C) C.length=0) (hC:C.length≤1000) (hD:D.length≤1000) (hqodg7_1:(eqI (icE n d q (cT P) P.length (cI C) C.length) 0)=true) (hqodg10_1:(ltI p 0)=false) (hqodg10_2:(ltI (((n:Nat):Int) - 1) p)=false) (hqodg10_3:(ddB (cI C) C.length (cI D) D.length d)=true) (h0b:True) (hqodg24_1:(ltI D.length D.length)=false) (w:World) (hs:LN):Goes pg 52 odgK15 ((qK7_6 C D P d n p q y)) (BaseW.H w hs) (OutH pg Try.f22 52 (.int .i64 (cdE n d q (cT P) P.length (cI C) C.length p (cI D) D.length)) w):=by
 have hcl_C:=cI_len C
 have hcl_D:=cI_len D
 obtain ⟨hR,hch⟩:=icE_zero hE
 obtain ⟨hm,⟨ha1,ha2,ha3⟩,hp⟩:=roE_zero hR
 have hcl_D:=cI_len D
 have ghqodg7_1:=eqI_true hqodg7_1
 have ghqodg10_1:=lF hqodg10_1
 have ghqodg10_2:=lF hqodg10_2
 have hdd:=ddB_true.1 hqodg10_3
 have hdr:=dd_rng hdd hch
 have ghqodg24_1:=lF hqodg24_1
 rcases bE (ltI 0 (intAt (cI (tabL (litF (cT P) q (cI (flt (stM n d q y P (stX (stC (cI C) C.length) (cI D) D.length)) P.length)) (flt (stM n d q y P (stX (stC (cI C) C.length) (cI D) D.length)) P.length).length) n)) (0 + p.toNat * 1))) with hqodg26_1 | hqodg26_1
 ·skip
  have ghqodg26_1:=lT hqodg26_1
  exact gL isR_e (gT cm (known_o3) 200 (T':=⟨[(8,(.v (.int .i64 (.ofNat 14))))],[],3,[]⟩) (e:=.ret) (ps:=[FreeL (cT P),IsRd (rdT [.v (.int .i64 n),.v (.int .i64 d),.v (.int .i64 q),AV.xl y P.length 3 (cT P)] (stX (stC (cI C) C.length) (cI D) D.length)),roE n d q (cT P) P.length=0,(flt (stM n d q y P (stX (stC (cI C) C.length) (cI D) D.length)) P.length).length=0∨0 < (flt (stM n d q y P (stX (stC (cI C) C.length) (cI D) D.length)) P.length).length,0≤p,p.toNat < n,loadL pg (cI (tabL (litF (cT P) q (cI (flt (stM n d q y P (stX (stC (cI C) C.length) (cI D) D.length)) P.length)) (flt (stM n d q y P (stX (stC (cI C) C.length) (cI D) D.length)) P.length).length) n)) (0 + p.toNat * 1) 3=some (.v (.int .i64 (intAt (cI (tabL (litF (cT P) q (cI (flt (stM n d q y P (stX (stC (cI C) C.length) (cI D) D.length)) P.length)) (flt (stM n d q y P (stX (stC (cI C) C.length) (cI D) D.length)) P.length).length) n)) (0 + p.toNat * 1)))),ltI 0 (intAt (cI (tabL (litF (cT P) q (cI (flt (stM n d q y P (stX (stC (cI C) C.length) (cI D) D.length)) P.length)) (flt (stM n d q y P (stX (stC (cI C) C.length) (cI D) D.length)) P.length).length) n)) (0 + p.toNat * 1))=true]) [.go,.go,.nat,.sym,.go,.b true,.go] (by kernel_rfl) (by kernel_rfl) ⟨(fP (cT_plain P)),⟨_,_,_,_,P,_,rfl⟩,hR,(Nat.eq_zero_or_pos _),(by omega),(by omega),(by rw [Nat.zero_add,Nat.mul_one]; exact cI_load (by rw [tabL_len]; omega) 3 (u3) rfl),hqodg26_1,trivial⟩ rfl) (Hd.en_eq (r:=(.int .i64 14)) (by (have q1:=hqodg26_1; rw [Nat.zero_add,Nat.mul_one,tab_int0 _ (by omega),dk_lit hm hch (fun i hi=>(hdr i hi).1)] at q1; rw [cdE_lv hE ⟨⟨by omega,by omega⟩,hdd⟩ q1])) (Hd.en_ret (v:=(.v (.int .i64 (.ofNat 14)))) (by kernel_rfl) rfl))
 ·skip
  have ghqodg26_1:=lF hqodg26_1
  exact gL isR_e (gT cm (known_o3) 200 (T':=⟨[(8,(.v (.int .i64 (.ofNat 0))))],[],3,[]⟩) (e:=.ret) (ps:=[FreeL (cT P),IsRd (rdT [.v (.int .i64 n),.v (.int .i64 d),.v (.int .i64 q),AV.xl y P.length 3 (cT P)] (stX (stC (cI C) C.length) (cI D) D.length)),roE n d q (cT P) P.length=0,(flt (stM n d q y P (stX (stC (cI C) C.length) (cI D) D.length)) P.length).length=0∨0 < (flt (stM n d q y P (stX (stC (cI C) C.length) (cI D) D.length)) P.length).length,0≤p,p.toNat < n,loadL pg (cI (tabL (litF (cT P) q (cI (flt (stM n d q y P (stX (stC (cI C) C.length) (cI D) D.length)) P.length)) (flt (stM n d q y P (stX (stC (cI C) C.length) (cI D) D.length)) P.length).length) n)) (0 + p.toNat * 1) 3=some (.v (.int .i64 (intAt (cI (tabL (litF (cT P) q (cI (flt (stM n d q y P (stX (stC (cI C) C.length) (cI D) D.length)) P.length)) (flt (stM n d q y P (stX (stC (cI C) C.length) (cI D) D.length)) P.length).length) n)) (0 + p.toNat * 1)))),ltI 0 (intAt (cI (tabL (litF (cT P) q (cI (flt (stM n d q y P (stX (stC (cI C) C.length) (cI D) D.length)) P.length)) (flt (stM n d q y P (stX (stC (cI C) C.length) (cI D) D.length)) P.length).length) n)) (0 + p.toNat * 1))=false]) [.go,.go,.nat,.sym,.go,.b false,.go] (by kernel_rfl) (by kernel_rfl) ⟨(fP (cT_plain P)),⟨_,_,_,_,P,_,rfl⟩,hR,(Nat.eq_zero_or_pos _),(by omega),(by omega),(by rw [Nat.zero_add,Nat.mul_one]; exact cI_load (by rw [tabL_len]; omega) 3 (u3) rfl),hqodg26_1,trivial⟩ rfl) (Hd.en_eq (r:=(.int .i64 0)) (by (have q1:=hqodg26_1; rw [Nat.zero_add,Nat.mul_one,tab_int0 _ (by omega),dk_lit hm hch (fun i hi=>(hdr i hi).1)] at q1; rw [cdE_ok hE ⟨⟨by omega,by omega⟩,hdd⟩ q1])) (Hd.en_ret (v:=(.v (.int .i64 (.ofNat 0)))) (by kernel_rfl) rfl))
theorem odg_23 (n:Nat) (d q:Int) (y:Value) (P:PL) (z:Value) (C:List Int) (p:Int) (z0:Value) (D:List Int) (hE:icE n d q (cT P) P.length (cI C) C.length=0) (hC:C.length≤1000) (hD:D.length≤1000) (hqodg7_1:(qK7_9 C P d n q)=true) (hqodg10_1:(ltI p 0)=false) (hqodg10_2:(ltI (((n:Nat):Int) - 1) p)=false) (hqodg10_3:(ddB (cI C) C.length (cI D) D.length d)=true) (i:Nat) (hi1:i≤D.length) (hi2:True) (w:World) (hs:LN):Goes pg 52 odgK22 (⟨[(2,(.v (.int .i64 (p)))),(10,(.ptr 1 0)),(qK7_13 D z0),(qK7_10 D),(38,(.v (.int .i64 i)))],[],2,[(1,(.cells (rdT [.v (.int .i64 n),.v (.int .i64 d),.v (.int .i64 q),.xl y P.length 3 (cT P)] (stX (stC (cI C) C.length) (cI D) i)) 67))]⟩) (BaseW.H w hs) (Hd.StepC pg 52 0 (fun i:{i:Nat // i≤D.length∧True}=>⟨[(2,(.v (.int .i64 (p)))),(10,(.ptr 1 0)),(qK7_13 D z0),(qK7_10 D),(38,(.v (.int .i64 i.1)))],[],2,[(1,(.cells (rdT [.v (.int .i64 n),.v (.int .i64 d),.v (.int .i64 q),.xl y P.length 3 (cT P)] (stX (stC (cI C) C.length) (cI D) i.1)) 67))]⟩) (fun i:{i:Nat // i≤D.length∧True}=>D.length - i.1) odgK15 w (OutH pg Try.f22 52 (.int .i64 (qK7_8 C D P d n p q)) w) (⟨i,hi1,hi2⟩:{i:Nat // i≤D.length∧True})):=by
 have hcl_C:=cI_len C
 have hcl_D:=cI_len D
 obtain ⟨hR,hch⟩:=icE_zero hE
 obtain ⟨hm,⟨ha1,ha2,ha3⟩,hp⟩:=roE_zero hR
 have hcl_D:=cI_len D
 have ghqodg7_1:=eqI_true hqodg7_1
 have ghqodg10_1:=lF hqodg10_1
 have ghqodg10_2:=lF hqodg10_2
 have hdd:=ddB_true.1 hqodg10_3
 have hdr:=dd_rng hdd hch
 rcases bE (ltI i D.length) with hqodg24_1 | hqodg24_1
 ·skip
  have ghqodg24_1:=lT hqodg24_1
  have hdi:=hdr i (by omega)
  exact gL isN_e (gT cm (known_o3) 200 (T':=(qK7_1 C D P d i n p q y z0)) (e:=.normal) (ps:=[ltI i D.length=true,i < D.length,loadL pg (cI D) (i * 1) 3=some (.v (.int .i64 (intAt (cI D) (i * 1)))),0≤intAt (cI D) (i * 1),(intAt (cI D) (i * 1)).toNat < 24,0 + 4 + (intAt (cI D) (i * 1)).toNat * 1 + ([(.v (.bool .false))]:List AV).length≤((rdT [(.v (.int .i64 n)),(.v (.int .i64 (d))),(.v (.int .i64 (q))),(.xl (y) (P.length) 3 (cT P))] (stX (stC (cI C) C.length) (cI D) i)):List AV).length,inR .i64 (((i:Nat):Int) + 1)]) [.go,.b true,.sym,.sym,.go,.go,.go,.nat,.sym,.go,.go] (by kernel_rfl) (by kernel_rfl) ⟨hqodg24_1,(by omega),(by rw [Nat.mul_one]; exact cI_load (by omega) 3 (u3) rfl),(by omega),(by omega),(by show _ + 1≤_; rw [rdT_len rfl]; omega),(iRK7 (by omega) (by omega)),trivial⟩ rfl) (eO (⟨i + 1,by omega,trivial⟩) (by show D.length - (i + 1) < D.length - i; omega) (show ((qK7_1 C D P d i n p q y z0):Ev.Lit)=⟨[(2,(.v (.int .i64 (p)))),(10,(.ptr 1 0)),(qK7_13 D z0),(qK7_10 D),(qK7_11 i)],[],2,[(1,(.cells (rdT [.v (.int .i64 n),.v (.int .i64 d),.v (.int .i64 q),.xl y P.length 3 (cT P)] (stX (stC (cI C) C.length) (cI D) (i + 1))) 67))]⟩ from by have hz_:=congrArg (fun (xq0:Ev.AB)=>(⟨[(2,(.v (.int .i64 (p)))),(10,(.ptr 1 0)),(qK7_13 D z0),(qK7_10 D),(qK7_11 i)],[],2,[(1,xq0)]⟩:Ev.Lit)) (congrArg (fun z=>Ev.AB.cells z 67) (show ((splice (rdT [(.v (.int .i64 n)),(.v (.int .i64 (d))),(.v (.int .i64 (q))),(.xl (y) (P.length) 3 (cT P))] (stX (stC (cI C) C.length) (cI D) i)) (0 + 4 + (intAt (cI D) (i * 1)).toNat * 1) [(.v (.bool .false))]):List Ev.AV)=(rdT [.v (.int .i64 n),.v (.int .i64 d),.v (.int .i64 q),.xl y P.length 3 (cT P)] (stX (stC (cI C) C.length) (cI D) (i + 1))) from by exact rdT_set (l:=[.v (.int .i64 n),.v (.int .i64 d),.v (.int .i64 q),.xl y P.length 3 (cT P)]) (st:=stX (stC (cI C) C.length) (cI D) i) (j:=(intAt (cI D) (i * 1)).toNat) rfl (by omega) (by omega) false)); exact hz_))
 ·skip
  have ghqodg24_1:=lF hqodg24_1
  obtain rfl:i=D.length:=by omega
  exact gL isX_e (gT cm (known_o3) 200 (T':=(qK7_6 C D P d n p q y)) (e:=.exit 0) (ps:=[ltI D.length D.length=false]) [.go,.b false] (by kernel_rfl) (by kernel_rfl) ⟨hqodg24_1,trivial⟩ rfl) (Hd.en_sx (odg_25 n d q y P z C p z0 D hE hC hD hqodg7_1 hqodg10_1 hqodg10_2 hqodg10_3 hi2  hqodg24_1 w hs))
theorem odg_21 (n:Nat) (d q:Int) (y:Value) (P:PL) (z:Value) (C:List Int) (p:Int) (z0:Value) (D:List Int) (hE:icE n d q (cT P) P.length (cI C) C.length=0) (hC:C.length≤1000) (hD:D.length≤1000) (hqodg7_1:(qK7_9 C P d n q)=true) (hqodg10_1:(ltI p 0)=false) (hqodg10_2:(ltI (((n:Nat):Int) - 1) p)=false) (hqodg10_3:(ddB (cI C) C.length (cI D) D.length d)=true) (w:World) (hs:LN):Goes pg 52 odgK18 ((qK7_2 C D P d n p q y z0)) (BaseW.H w hs) (Hd.AfterN pg 52 odgK15 w (OutH pg Try.f22 52 (.int .i64 (qK7_8 C D P d n p q)) w)):=by
 have hcl_C:=cI_len C
 have hcl_D:=cI_len D
 obtain ⟨hR,hch⟩:=icE_zero hE
 obtain ⟨hm,⟨ha1,ha2,ha3⟩,hp⟩:=roE_zero hR
 have hcl_D:=cI_len D
 have ghqodg7_1:=eqI_true hqodg7_1
 have ghqodg10_1:=lF hqodg10_1
 have ghqodg10_2:=lF hqodg10_2
 have hdd:=ddB_true.1 hqodg10_3
 have hdr:=dd_rng hdd hch
 exact Hd.goes_loopA (id:=0) (by kernel_rfl) (by kernel_rfl) (fun i:{i:Nat // i≤D.length∧True}=>⟨[(2,(.v (.int .i64 (p)))),(10,(.ptr 1 0)),(qK7_13 D z0),(qK7_10 D),(38,(.v (.int .i64 i.1)))],[],2,[(1,(.cells (rdT [.v (.int .i64 n),.v (.int .i64 d),.v (.int .i64 q),.xl y P.length 3 (cT P)] (stX (stC (cI C) C.length) (cI D) i.1)) 67))]⟩) (fun i:{i:Nat // i≤D.length∧True}=>D.length - i.1) (fun ix_ hs=>odg_23 n d q y P z C p z0 D hE hC hD hqodg7_1 hqodg10_1 hqodg10_2 hqodg10_3 ix_.1 ix_.2.1 ix_.2.2 w hs) ⟨0,Nat.zero_le _,trivial⟩ hs
theorem odg_20 (n:Nat) (d q:Int) (y:Value) (P:PL) (z:Value) (C:List Int) (p:Int) (z0:Value) (D:List Int) (hE:icE n d q (cT P) P.length (cI C) C.length=0) (hC:C.length≤1000) (hD:D.length≤1000) (hqodg7_1:(qK7_9 C P d n q)=true) (hqodg10_1:(ltI p 0)=false) (hqodg10_2:(ltI (((n:Nat):Int) - 1) p)=false) (hqodg10_3:(ddB (cI C) C.length (cI D) D.length d)=true) (w:World) (hs:LN):Goes pg 52 odgK18 ((qK7_2 C D P d n p q y z0)) (BaseW.H w hs) (Hd.AfterN pg 52 odgK15 w (OutH pg Try.f22 52 (.int .i64 (qK7_8 C D P d n p q)) w)):=by
 exact odg_21 n d q y P z C p z0 D hE hC hD hqodg7_1 hqodg10_1 hqodg10_2 hqodg10_3 w hs
theorem odg_17 (n:Nat) (d q:Int) (y:Value) (P:PL) (z:Value) (C:List Int) (p:Int) (z0:Value) (D:List Int) (hE:icE n d q (cT P) P.length (cI C) C.length=0) (hC:C.length≤1000) (hD:D.length≤1000) (hqodg7_1:(qK7_9 C P d n q)=true) (hqodg10_1:(ltI p 0)=false) (hqodg10_2:(ltI (((n:Nat):Int) - 1) p)=false) (hqodg10_3:(ddB (cI C) C.length (cI D) D.length d)=true) (w:World) (hs:LN):Goes pg 52 odgK16 ((qK7_4 C D P d n p q y z0)) (BaseW.H w hs) (Hd.AfterN pg 52 odgK15 w (OutH pg Try.f22 52 (.int .i64 (qK7_8 C D P d n p q)) w)):=by
 have hcl_C:=cI_len C
 have hcl_D:=cI_len D
 obtain ⟨hR,hch⟩:=icE_zero hE
 obtain ⟨hm,⟨ha1,ha2,ha3⟩,hp⟩:=roE_zero hR
 have hcl_D:=cI_len D
 have ghqodg7_1:=eqI_true hqodg7_1
 have ghqodg10_1:=lF hqodg10_1
 have ghqodg10_2:=lF hqodg10_2
 have hdd:=ddB_true.1 hqodg10_3
 have hdr:=dd_rng hdd hch
 refine gS (by kernel_rfl) ?_
 exact gL isN_e (gT cm (known_o3) 200 (T':=(qK7_2 C D P d n p q y z0)) (e:=.normal) (ps:=[]) [.go,.go,.go] (by kernel_rfl) (by kernel_rfl) trivial rfl) (Hd.en_n (odg_20 n d q y P z C p z0 D hE hC hD hqodg7_1 hqodg10_1 hqodg10_2 hqodg10_3 w hs))
theorem odg_14 (n:Nat) (d q:Int) (y:Value) (P:PL) (z:Value) (C:List Int) (p:Int) (z0:Value) (D:List Int) (hE:icE n d q (cT P) P.length (cI C) C.length=0) (hC:C.length≤1000) (hD:D.length≤1000) (hqodg7_1:(qK7_9 C P d n q)=true) (hqodg10_1:(ltI p 0)=false) (hqodg10_2:(ltI (((n:Nat):Int) - 1) p)=false) (hqodg10_3:(ddB (cI C) C.length (cI D) D.length d)=true) (w:World) (hs:LN):Goes pg 52 odgK12 ((qK7_4 C D P d n p q y z0)) (BaseW.H w hs) (OutH pg Try.f22 52 (.int .i64 (qK7_8 C D P d n p q)) w):=by
 exact gS (by kernel_rfl) (odg_17 n d q y P z C p z0 D hE hC hD hqodg7_1 hqodg10_1 hqodg10_2 hqodg10_3 w hs)
theorem odg_11 (n:Nat) (d q:Int) (y:Value) (P:PL) (z:Value) (C:List Int) (p:Int) (z0:Value) (D:List Int) (hE:icE n d q (cT P) P.length (cI C) C.length=0) (hC:C.length≤1000) (hD:D.length≤1000) (hqodg7_1:(qK7_9 C P d n q)=true) (hqodg10_1:(ltI p 0)=false) (hqodg10_2:(ltI (((n:Nat):Int) - 1) p)=false) (hqodg10_3:(ddB (cI C) C.length (cI D) D.length d)=true) (w:World) (hs:LN):Goes pg 52 odgK9 ((qK7_3 C D P d n p q y z z0)) (BaseW.H w hs) (OutH pg Try.f22 52 (.int .i64 (qK7_8 C D P d n p q)) w):=by
 have hcl_C:=cI_len C
 have hcl_D:=cI_len D
 obtain ⟨hR,hch⟩:=icE_zero hE
 obtain ⟨hm,⟨ha1,ha2,ha3⟩,hp⟩:=roE_zero hR
 have hcl_D:=cI_len D
 have ghqodg7_1:=eqI_true hqodg7_1
 have ghqodg10_1:=lF hqodg10_1
 have ghqodg10_2:=lF hqodg10_2
 have hdd:=ddB_true.1 hqodg10_3
 have hdr:=dd_rng hdd hch
 refine gS (by kernel_rfl) ?_
 exact gL isN_e (gT cm (known_o3) 200 (T':=(qK7_4 C D P d n p q y z0)) (e:=.normal) (ps:=[FreeL (cT P),FreeL (cI C),IsT P.length (cT P),IsC 1 C.length (cI C),P.length≤24,C.length≤1000,chB (cI C) C.length P.length=true,FreeL (cT P)]) [.go,.go,.go,.go] (by kernel_rfl) (by kernel_rfl) ⟨(fP (cT_plain P)),(fP (cI_plain _)),⟨P,rfl,rfl⟩,⟨rfl,_,rfl,rfl⟩,hm,hC,(chB_true.2 hch),(fP (cT_plain P)),trivial⟩ rfl) (Hd.en_n (odg_14 n d q y P z C p z0 D hE hC hD hqodg7_1 hqodg10_1 hqodg10_2 hqodg10_3 w hs))
theorem odg_8 (n:Nat) (d q:Int) (y:Value) (P:PL) (z:Value) (C:List Int) (p:Int) (z0:Value) (D:List Int) (hE:icE n d q (cT P) P.length (cI C) C.length=0) (hC:C.length≤1000) (hD:D.length≤1000) (hqodg7_1:(eqI (icE n d q (cT P) P.length (cI C) C.length) 0)=true) (w:World) (hs:LN):Goes pg 52 odgK6 ((qK7_3 C D P d n p q y z z0)) (BaseW.H w hs) (OutH pg Try.f22 52 (.int .i64 (cdE n d q (cT P) P.length (cI C) C.length p (cI D) D.length)) w):=by
 have hcl_C:=cI_len C
 have hcl_D:=cI_len D
 obtain ⟨hR,hch⟩:=icE_zero hE
 obtain ⟨hm,⟨ha1,ha2,ha3⟩,hp⟩:=roE_zero hR
 have hcl_D:=cI_len D
 have ghqodg7_1:=eqI_true hqodg7_1
 refine gS (by kernel_rfl) ?_
 rcases bE (ltI p 0) with hqodg10_1 | hqodg10_1
 ·skip
  have ghqodg10_1:=lT hqodg10_1
  exact gL isR_e (gT cm (known_o3) 200 (T':=⟨[(8,(.v (.int .i64 (.ofNat 3))))],[],1,[]⟩) (e:=.ret) (ps:=[inR .i64 (((n:Nat):Int) - 1),(!ltI p 0)=false,false=false,false=false,(!false)=true,true=true,true=true,true=true,true=true,true=true,true=true]) [.go,.go,.go,.go,.go,.go,.go,.go,.go,.b false,.b false,.b false,.go,.go,.go,.go,.b true,.b true,.b true,.b true,.b true,.b true,.go,.b true,.go] (by kernel_rfl) (by kernel_rfl) ⟨(iRK7 (by omega) (by omega)),(by rw [hqodg10_1]; rfl),rfl,rfl,rfl,rfl,rfl,rfl,rfl,rfl,rfl,trivial⟩ rfl) (Hd.en_o (by intro h; cases h) (Hd.en_eq (r:=(.int .i64 3)) (by rw [cdE_no hE (fun q=>by have q1:=q.1; omega)]) (Hd.en_ret (v:=(.v (.int .i64 (.ofNat 3)))) (by kernel_rfl) rfl)))
 ·skip
  have ghqodg10_1:=lF hqodg10_1
  rcases bE (ltI (((n:Nat):Int) - 1) p) with hqodg10_2 | hqodg10_2
  ·skip
   have ghqodg10_2:=lT hqodg10_2
   exact gL isR_e (gT cm (known_o3) 200 (T':=⟨[(8,(.v (.int .i64 (.ofNat 3))))],[],1,[]⟩) (e:=.ret) (ps:=[inR .i64 (((n:Nat):Int) - 1),(!ltI p 0)=true,true=true,true=true,(!!ltI (((n:Nat):Int) - 1) p)=true,true=true,true=true,true=true,true=true,true=true,true=true]) [.go,.go,.go,.go,.go,.go,.go,.go,.go,.b true,.go,.b true,.go,.b true,.go,.go,.go,.go,.go,.b true,.b true,.b true,.b true,.b true,.b true,.go,.b true,.go] (by kernel_rfl) (by kernel_rfl) ⟨(iRK7 (by omega) (by omega)),(by rw [hqodg10_1]; rfl),rfl,rfl,(by rw [hqodg10_2]; rfl),rfl,rfl,rfl,rfl,rfl,rfl,trivial⟩ rfl) (Hd.en_o (by intro h; cases h) (Hd.en_eq (r:=(.int .i64 3)) (by rw [cdE_no hE (fun q=>by have q1:=q.1; omega)]) (Hd.en_ret (v:=(.v (.int .i64 (.ofNat 3)))) (by kernel_rfl) rfl)))
  ·skip
   have ghqodg10_2:=lF hqodg10_2
   rcases bE (ddB (cI C) C.length (cI D) D.length d) with hqodg10_3 | hqodg10_3
   ·skip
    have hdd:=ddB_true.1 hqodg10_3
    have hdr:=dd_rng hdd hch
    exact gL isN_e (gT cm (known_o3) 200 (T':=(qK7_3 C D P d n p q y z z0)) (e:=.normal) (ps:=[inR .i64 (((n:Nat):Int) - 1),(!ltI p 0)=true,true=true,true=true,(!!ltI (((n:Nat):Int) - 1) p)=false,false=false,false=false,false=false,false=false,IsC (0 + 1) D.length (cI D),IsC (0 + 1) C.length (cI C),D.length≤1000,C.length≤1000,false=false,(!ddB (cI C) C.length (cI D) D.length d)=false]) [.go,.go,.go,.go,.go,.go,.go,.go,.go,.b true,.go,.b true,.go,.b true,.go,.go,.go,.go,.go,.b false,.go,.b false,.go,.b false,.go,.b false,.go,.b false,.b false,.go,.go,.b false] (by kernel_rfl) (by kernel_rfl) ⟨(iRK7 (by omega) (by omega)),(by rw [hqodg10_1]; rfl),rfl,rfl,(by rw [hqodg10_2]; rfl),rfl,rfl,rfl,rfl,⟨rfl,_,rfl,rfl⟩,⟨rfl,_,rfl,rfl⟩,(by omega),hC,rfl,(by rw [hqodg10_3]; rfl),trivial⟩ rfl) (Hd.en_n (odg_11 n d q y P z C p z0 D hE hC hD hqodg7_1 hqodg10_1 hqodg10_2 hqodg10_3 w hs))
   ·skip
    exact gL isR_e (gT cm (known_o3) 200 (T':=⟨[(8,(.v (.int .i64 (.ofNat 3))))],[],1,[]⟩) (e:=.ret) (ps:=[inR .i64 (((n:Nat):Int) - 1),(!ltI p 0)=true,true=true,true=true,(!!ltI (((n:Nat):Int) - 1) p)=false,false=false,false=false,false=false,false=false,IsC (0 + 1) D.length (cI D),IsC (0 + 1) C.length (cI C),D.length≤1000,C.length≤1000,false=false,(!ddB (cI C) C.length (cI D) D.length d)=true]) [.go,.go,.go,.go,.go,.go,.go,.go,.go,.b true,.go,.b true,.go,.b true,.go,.go,.go,.go,.go,.b false,.go,.b false,.go,.b false,.go,.b false,.go,.b false,.b false,.go,.go,.b true,.go] (by kernel_rfl) (by kernel_rfl) ⟨(iRK7 (by omega) (by omega)),(by rw [hqodg10_1]; rfl),rfl,rfl,(by rw [hqodg10_2]; rfl),rfl,rfl,rfl,rfl,⟨rfl,_,rfl,rfl⟩,⟨rfl,_,rfl,rfl⟩,(by omega),hC,rfl,(by rw [hqodg10_3]; rfl),trivial⟩ rfl) (Hd.en_o (by intro h; cases h) (Hd.en_eq (r:=(.int .i64 3)) (by rw [cdE_no hE (fun q=>by have q1:=ddB_true.2 q.2; rw [hqodg10_3] at q1; cases q1)]) (Hd.en_ret (v:=(.v (.int .i64 (.ofNat 3)))) (by kernel_rfl) rfl)))
theorem odg_5 (n:Nat) (d q:Int) (y:Value) (P:PL) (z:Value) (C:List Int) (p:Int) (z0:Value) (D:List Int) (hE:icE n d q (cT P) P.length (cI C) C.length=0) (hC:C.length≤1000) (hD:D.length≤1000) (w:World) (hs:LN):Goes pg 52 odgK3 ((qK7_3 C D P d n p q y z z0)) (BaseW.H w hs) (OutH pg Try.f22 52 (.int .i64 (cdE n d q (cT P) P.length (cI C) C.length p (cI D) D.length)) w):=by
 have hcl_C:=cI_len C
 have hcl_D:=cI_len D
 obtain ⟨hR,hch⟩:=icE_zero hE
 obtain ⟨hm,⟨ha1,ha2,ha3⟩,hp⟩:=roE_zero hR
 have hcl_D:=cI_len D
 refine gS (by kernel_rfl) ?_
 rcases bE (eqI (icE n d q (cT P) P.length (cI C) C.length) 0) with hqodg7_1 | hqodg7_1
 ·skip
  have ghqodg7_1:=eqI_true hqodg7_1
  exact gL isN_e (gT cm (known_o3) 200 (T':=(qK7_3 C D P d n p q y z z0)) (e:=.normal) (ps:=[IsT P.length (cT P),IsC 1 C.length (cI C),C.length≤1000,(!eqI (icE n d q (cT P) P.length (cI C) C.length) 0)=false]) [.go,.go,.go,.go,.go,.b false] (by kernel_rfl) (by kernel_rfl) ⟨⟨P,rfl,rfl⟩,⟨rfl,_,rfl,rfl⟩,hC,(by rw [hqodg7_1]; rfl),trivial⟩ rfl) (Hd.en_n (odg_8 n d q y P z C p z0 D hE hC hD hqodg7_1 w hs))
 ·skip
  have ghqodg7_1:=eqI_false hqodg7_1
  exact absurd hE (eqI_false hqodg7_1)
theorem odg_2 (n:Nat) (d q:Int) (y:Value) (P:PL) (z:Value) (C:List Int) (p:Int) (z0:Value) (D:List Int) (hE:icE n d q (cT P) P.length (cI C) C.length=0) (hC:C.length≤1000) (hD:D.length≤1000) (w:World) (hs:LN):Goes pg 52 odgK1 (⟨[(0,(.agg [.v (.int .i64 n),.v (.int .i64 d),.v (.int .i64 q),.xl y P.length 3 (cT P)])),(1,(.xl z C.length 1 (cI C))),(2,(.v (.int .i64 p))),(3,(.xl z0 D.length 1 (cI D)))],[],0,[]⟩) (BaseW.H w hs) (OutH pg Try.f22 52 (.int .i64 (qK7_8 C D P d n p q)) w):=by
 have hcl_C:=cI_len C
 have hcl_D:=cI_len D
 obtain ⟨hR,hch⟩:=icE_zero hE
 obtain ⟨hm,⟨ha1,ha2,ha3⟩,hp⟩:=roE_zero hR
 have hcl_D:=cI_len D
 refine gS (by kernel_rfl) ?_
 exact gL isN_e (gT cm (known_o3) 200 (T':=(qK7_3 C D P d n p q y z z0)) (e:=.normal) (ps:=[]) [.go,.go] (by kernel_rfl) (by kernel_rfl) trivial rfl) (Hd.en_n (odg_5 n d q y P z C p z0 D hE hC hD w hs))
theorem odg (n:Nat) (d q:Int) (y:Value) (P:PL) (z:Value) (C:List Int) (p:Int) (z0:Value) (D:List Int) (hE:icE n d q (cT P) P.length (cI C) C.length=0) (hC:C.length≤1000) (hD:D.length≤1000):GivesA pg 22 [(.agg [.v (.int .i64 n),.v (.int .i64 d),.v (.int .i64 q),.xl y P.length 3 (cT P)]),(.xl z C.length 1 (cI C)),(.v (.int .i64 p)),(.xl z0 D.length 1 (cI D))] (.int .i64 (qK7_8 C D P d n p q)) :=
 givesA_partsH 52 Try.func22 (by kernel_rfl) (by kernel_rfl) (by kernel_rfl) (fun w=>goes_less (by kernel_rfl) (by kernel_rfl) (by kernel_rfl) (by kernel_rfl) (odg_2 n d q y P z C p z0 D hE hC hD w []))
end
end Go.Proofs.Ytnphldmnakbknaa
