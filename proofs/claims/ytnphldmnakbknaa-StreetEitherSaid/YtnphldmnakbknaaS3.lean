import Derived.Test.YtnphldmnakbknaaS1
set_option maxHeartbeats 4000000
set_option linter.all false
/- isIncreasing. -/
namespace Go.Proofs.Ytnphldmnakbknaa
open Go Ev
noncomputable section
theorem iRS3 {a:Int} (h : -9223372036854775808≤a) (k:a≤9223372036854775807):inR .i64 a:=⟨h,k⟩
section
variable (C : List Int) (i : Nat) (m : Int) (z : Value)
abbrev qS3_11:Nat×Ev.AV:=(0,(.xl (z) (C.length) 1 (cI C)))
abbrev qS3_12:Nat×Ev.AV:=(7,(.xl (z) (C.length) 1 (cI C)))
abbrev qS3_9:Nat×Ev.AV:=(8,(.v (.int .i64 C.length)))
abbrev qS3_1:Ev.Lit:=⟨[(qS3_11 C z),(1,(.v (.int .i64 (m)))),(qS3_12 C z),(qS3_9 C),(9,(.v (.int .i64 (.ofNat 0))))],[],0,[]⟩
abbrev qS3_8:Nat×Ev.AV:=(5,(.v (.int .i64 C.length)))
abbrev qS3_2:Ev.Lit:=⟨[(qS3_11 C z),(qS3_8 C),(6,(.v (.int .i64 (((i + 1):Nat):Int))))],[],0,[]⟩
abbrev qS3_3:Ev.Lit:=⟨[(qS3_11 C z),(qS3_8 C),(6,(.v (.int .i64 (.ofNat 0))))],[],0,[]⟩
abbrev qS3_4:Ev.Lit:=⟨[(qS3_11 C z),(1,(.v (.int .i64 (m)))),(5,(.v (.int .i64 (((i + 1):Nat):Int))))],[],0,[]⟩
abbrev qS3_5:Ev.Lit:=⟨[(qS3_11 C z),(1,(.v (.int .i64 (m)))),(5,(.v (.int .i64 (.ofNat 0))))],[],0,[]⟩
abbrev qS3_6:Ev.Lit:=⟨[(qS3_11 C z),(1,(.v (.int .i64 (m))))],[],0,[]⟩
abbrev qS3_7:Ev.Lit:=⟨[(qS3_11 C z)],[],0,[]⟩
abbrev qS3_10:Ev.Lit:=⟨[(4,(.v (.bool .false)))],[],0,[]⟩
end
def inK1:Code:=bodyC Try.f65
def inK3:Code:=tlC inK1
def inK6:Code:=tlC inK3
def inK7:Code:=(hdC inK3)
def inK9:Code:=tlC inK7
def inK13:Code:=loopC inK9
theorem in_16 (z:Value) (C:List Int) (hC:C.length≤1000) (h0b:∀ j,j + 1 < (C.length)→intAt (cI C) (j * 1) < intAt (cI C) ((j + 1) * 1)) (hqin15_1:(ltI C.length C.length)=false) (w:World) (hs:LN):Goes pg 24 inK6 (⟨[],[],0,[]⟩) (BaseW.H w hs) (OutH pg Try.f65 24 (.bool (incB (cI C) C.length)) w):=by
 have hcl_C:=cI_len C
 have ghqin15_1:=lF hqin15_1
 exact gL isR_e (gT cm (kN) 200 (T':=⟨[(2,(.v (.bool .true)))],[],0,[]⟩) (e:=.ret) (ps:=[]) [.go] (by kernel_rfl) (by kernel_rfl) trivial rfl) (Hd.en_eq (r:=(.bool .true)) (by rw [incB_true.2 (fun j hj=>h0b j hj)]) (Hd.en_ret (v:=(.v (.bool .true))) (by kernel_rfl) rfl))
theorem in_14 (z:Value) (C:List Int) (hC:C.length≤1000) (i:Nat) (hi1:i≤C.length) (hi2:∀ j,j + 1 < i→intAt (cI C) (j * 1) < intAt (cI C) ((j + 1) * 1)) (w:World) (hs:LN):Goes pg 24 inK13 (⟨[(qS3_11 C z),(qS3_8 C),(6,(.v (.int .i64 i)))],[],0,[]⟩) (BaseW.H w hs) (Hd.StepC pg 24 0 (fun i:{i:Nat // i≤C.length∧∀ j,j + 1 < i→intAt (cI C) (j * 1) < intAt (cI C) ((j + 1) * 1)}=>⟨[(qS3_11 C z),(qS3_8 C),(6,(.v (.int .i64 i.1)))],[],0,[]⟩) (fun i:{i:Nat // i≤C.length∧∀ j,j + 1 < i→intAt (cI C) (j * 1) < intAt (cI C) ((j + 1) * 1)}=>C.length - i.1) inK6 w (OutH pg Try.f65 24 (.bool (incB (cI C) C.length)) w) (⟨i,hi1,hi2⟩:{i:Nat // i≤C.length∧∀ j,j + 1 < i→intAt (cI C) (j * 1) < intAt (cI C) ((j + 1) * 1)})):=by
 have hcl_C:=cI_len C
 rcases bE (ltI i C.length) with hqin15_1 | hqin15_1
 ·skip
  have ghqin15_1:=lT hqin15_1
  have hj1:(((i:Nat):Int) - 1).toNat=i - 1:=by omega
  have hj2:i=(i - 1) + 1∨i=0:=by omega
  rcases bE (ltI 0 i) with hqin15_2 | hqin15_2
  ·skip
   have ghqin15_2:=lT hqin15_2
   rcases bE (ltI (intAt (cI C) ((((i:Nat):Int) - 1).toNat * 1)) (intAt (cI C) (i * 1))) with hqin15_3 | hqin15_3
   ·skip
    have ghqin15_3:=lT hqin15_3
    rw [hj1] at ghqin15_3
    exact gL isN_e (gT cm (kN) 200 (T':=(qS3_2 C i z)) (e:=.normal) (ps:=[ltI i C.length=true,ltI 0 i=true,true=true,true=true,i < C.length,true=true,loadL pg (cI C) (i * 1) 3=some (.v (.int .i64 (intAt (cI C) (i * 1)))),true=true,true=true,true=true,inR .i64 (((i:Nat):Int) - 1),true=true,(0:Int)≤((i:Nat):Int) - 1,(((i:Nat):Int) - 1).toNat < C.length,true=true,loadL pg (cI C) ((((i:Nat):Int) - 1).toNat * 1) 3=some (.v (.int .i64 (intAt (cI C) ((((i:Nat):Int) - 1).toNat * 1)))),true=true,(!ltI (intAt (cI C) ((((i:Nat):Int) - 1).toNat * 1)) (intAt (cI C) (i * 1)))=false,inR .i64 (((i:Nat):Int) + 1)]) [.go,.b true,.go,.go,.go,.go,.go,.b true,.go,.b true,.go,.b true,.sym,.b true,.sym,.b true,.go,.b true,.go,.b true,.go,.b true,.nat,.b true,.sym,.b true,.go,.go,.b false,.go,.go] (by kernel_rfl) (by kernel_rfl) ⟨hqin15_1,hqin15_2,rfl,rfl,(by omega),rfl,(by rw [Nat.mul_one]; exact cI_load (by omega) 3 (u3) rfl),rfl,rfl,rfl,(iRS3 (by omega) (by omega)),rfl,(by omega),(by omega),rfl,(by rw [Nat.mul_one]; exact cI_load (by omega) 3 (u3) rfl),rfl,(by rw [hqin15_3]; rfl),(iRS3 (by omega) (by omega)),trivial⟩ rfl) (eO (⟨i + 1,by omega,(fun j hj=>if e:j + 1 < i then hi2 j e else (by obtain rfl:j=i - 1:=(by omega); rw [show i - 1 + 1=i by omega]; omega))⟩) (by show C.length - (i + 1) < C.length - i; omega) rfl)
   ·skip
    have ghqin15_3:=lF hqin15_3
    rw [hj1] at ghqin15_3
    exact gL isR_e (gT cm (kN) 200 (T':=⟨[(2,(.v (.bool .false)))],[],0,[]⟩) (e:=.ret) (ps:=[ltI i C.length=true,ltI 0 i=true,true=true,true=true,i < C.length,true=true,loadL pg (cI C) (i * 1) 3=some (.v (.int .i64 (intAt (cI C) (i * 1)))),true=true,true=true,true=true,inR .i64 (((i:Nat):Int) - 1),true=true,(0:Int)≤((i:Nat):Int) - 1,(((i:Nat):Int) - 1).toNat < C.length,true=true,loadL pg (cI C) ((((i:Nat):Int) - 1).toNat * 1) 3=some (.v (.int .i64 (intAt (cI C) ((((i:Nat):Int) - 1).toNat * 1)))),true=true,(!ltI (intAt (cI C) ((((i:Nat):Int) - 1).toNat * 1)) (intAt (cI C) (i * 1)))=true]) [.go,.b true,.go,.go,.go,.go,.go,.b true,.go,.b true,.go,.b true,.sym,.b true,.sym,.b true,.go,.b true,.go,.b true,.go,.b true,.nat,.b true,.sym,.b true,.go,.go,.b true,.go] (by kernel_rfl) (by kernel_rfl) ⟨hqin15_1,hqin15_2,rfl,rfl,(by omega),rfl,(by rw [Nat.mul_one]; exact cI_load (by omega) 3 (u3) rfl),rfl,rfl,rfl,(iRS3 (by omega) (by omega)),rfl,(by omega),(by omega),rfl,(by rw [Nat.mul_one]; exact cI_load (by omega) 3 (u3) rfl),rfl,(by rw [hqin15_3]; rfl),trivial⟩ rfl) (Hd.en_so (by intro h; cases h) (by intro h; cases h) (Hd.en_eq (r:=(.bool .false)) (by rw [incB_no (i:=i - 1) (by omega) (by rw [show i - 1 + 1=i by omega]; omega)]) (Hd.en_ret (v:=(.v (.bool .false))) (by kernel_rfl) rfl)))
  ·skip
   have ghqin15_2:=lF hqin15_2
   exact gL isN_e (gT cm (kN) 200 (T':=(qS3_2 C i z)) (e:=.normal) (ps:=[ltI i C.length=true,ltI 0 i=false,false=false,false=false,false=false,false=false,false=false,false=false,false=false,false=false,false=false,false=false,inR .i64 (((i:Nat):Int) + 1)]) [.go,.b true,.go,.go,.go,.go,.go,.b false,.b false,.b false,.b false,.b false,.b false,.b false,.b false,.b false,.b false,.go,.b false,.go,.go] (by kernel_rfl) (by kernel_rfl) ⟨hqin15_1,hqin15_2,rfl,rfl,rfl,rfl,rfl,rfl,rfl,rfl,rfl,rfl,(iRS3 (by omega) (by omega)),trivial⟩ rfl) (eO (⟨i + 1,by omega,(fun j hj=>if e:j + 1 < i then hi2 j e else (by obtain rfl:j=i - 1:=(by omega); rw [show i - 1 + 1=i by omega]; omega))⟩) (by show C.length - (i + 1) < C.length - i; omega) rfl)
 ·skip
  have ghqin15_1:=lF hqin15_1
  obtain rfl:i=C.length:=by omega
  exact gL isX_e (gT cm (kN) 200 (T':=⟨[],[],0,[]⟩) (e:=.exit 0) (ps:=[ltI C.length C.length=false]) [.go,.b false] (by kernel_rfl) (by kernel_rfl) ⟨hqin15_1,trivial⟩ rfl) (Hd.en_sx (in_16 z C hC hi2  hqin15_1 w hs))
theorem in_12 (z:Value) (C:List Int) (hC:C.length≤1000) (w:World) (hs:LN):Goes pg 24 inK9 ((qS3_3 C z)) (BaseW.H w hs) (Hd.AfterN pg 24 inK6 w (OutH pg Try.f65 24 (.bool (incB (cI C) C.length)) w)):=by
 have hcl_C:=cI_len C
 exact Hd.goes_loopA (id:=0) (by kernel_rfl) (by kernel_rfl) (fun i:{i:Nat // i≤C.length∧∀ j,j + 1 < i→intAt (cI C) (j * 1) < intAt (cI C) ((j + 1) * 1)}=>⟨[(qS3_11 C z),(qS3_8 C),(6,(.v (.int .i64 i.1)))],[],0,[]⟩) (fun i:{i:Nat // i≤C.length∧∀ j,j + 1 < i→intAt (cI C) (j * 1) < intAt (cI C) ((j + 1) * 1)}=>C.length - i.1) (fun ix_ hs=>in_14 z C hC ix_.1 ix_.2.1 ix_.2.2 w hs) ⟨0,Nat.zero_le _,(fun j hj=>by omega)⟩ hs
theorem in_11 (z:Value) (C:List Int) (hC:C.length≤1000) (w:World) (hs:LN):Goes pg 24 inK9 ((qS3_3 C z)) (BaseW.H w hs) (Hd.AfterN pg 24 inK6 w (OutH pg Try.f65 24 (.bool (incB (cI C) C.length)) w)):=by
 exact in_12 z C hC w hs
theorem in_8 (z:Value) (C:List Int) (hC:C.length≤1000) (w:World) (hs:LN):Goes pg 24 inK7 ((qS3_7 C z)) (BaseW.H w hs) (Hd.AfterN pg 24 inK6 w (OutH pg Try.f65 24 (.bool (incB (cI C) C.length)) w)):=by
 have hcl_C:=cI_len C
 refine gS (by kernel_rfl) ?_
 exact gL isN_e (gT cm (kN) 200 (T':=(qS3_3 C z)) (e:=.normal) (ps:=[]) [.go,.go,.go] (by kernel_rfl) (by kernel_rfl) trivial rfl) (Hd.en_n (in_11 z C hC w hs))
theorem in_5 (z:Value) (C:List Int) (hC:C.length≤1000) (w:World) (hs:LN):Goes pg 24 inK3 ((qS3_7 C z)) (BaseW.H w hs) (OutH pg Try.f65 24 (.bool (incB (cI C) C.length)) w):=by
 exact gS (by kernel_rfl) (in_8 z C hC w hs)
theorem in_2 (z:Value) (C:List Int) (hC:C.length≤1000) (w:World) (hs:LN):Goes pg 24 inK1 (⟨[(0,(.xl z C.length 1 (cI C)))],[],0,[]⟩) (BaseW.H w hs) (OutH pg Try.f65 24 (.bool (incB (cI C) C.length)) w):=by
 have hcl_C:=cI_len C
 refine gS (by kernel_rfl) ?_
 exact gL isN_e (gT cm (kN) 200 (T':=(qS3_7 C z)) (e:=.normal) (ps:=[]) [.go] (by kernel_rfl) (by kernel_rfl) trivial rfl) (Hd.en_n (in_5 z C hC w hs))
theorem inc_g (z:Value) (C:List Int) (hC:C.length≤1000):GivesA pg 65 [(.xl z C.length 1 (cI C))] (.bool (incB (cI C) C.length)) :=
 givesA_partsH 24 Try.func65 (by kernel_rfl) (by kernel_rfl) (by kernel_rfl) (fun w=>goes_less (by kernel_rfl) (by kernel_rfl) (by kernel_rfl) (by kernel_rfl) (in_2 z C hC w []))
def IsC (k n:Nat) (c:List AV):Prop:=k=1∧∃ L,c=cI L∧n=L.length
def inS:List Vw→Option (Res1×List Prop):=fun vs =>
 match vs with
 | [.lst n k c]=>some (.val (.v (.bool (incB c n))),[IsC k n c,n≤1000])
 | _=>none
def inO:OrcH:=avOrc 65 [1] inS
theorem known_in:Known pg (clsO inO):=known_av (fun vs r ps h hp=>by
 unfold inS at h
 split at h
 ·cases h
  obtain ⟨⟨rfl,L,rfl,rfl⟩,hn,-⟩:=hp
  refine ⟨⟨⟨_,cI_plain L⟩,trivial⟩,fun ys hy=>?_⟩
  obtain ⟨y1,rfl⟩:=len1 hy
  exact ⟨_,rfl,inc_g y1 L hn⟩
 ·cases h)
theorem chB_inc {c:List AV} {k:Nat} {m:Int} (h:∀ i,i < k→0≤intAt c (i * 1)∧intAt c (i * 1) < m):chB c k m=incB c k:=by
 cases e:incB c k with
 | true=>exact chB_true.2 ⟨h,incB_true.1 e⟩
 | false=>exact chB_no (fun q=>by rw [incB_true.2 q.2] at e; cases e)
def riP (c:List AV) (m:Int) (i:Nat):Prop:=0≤intAt c (i * 1)∧intAt c (i * 1) < m∧(0 < i→intAt c ((i - 1) * 1) < intAt c (i * 1))
theorem chB_ri {c:List AV} {k:Nat} {m:Int} (h:∀ i,i < k→riP c m i):chB c k m=true:=chB_true.2 ⟨fun i hi=>⟨(h i hi).1,(h i hi).2.1⟩,fun i hi=>(h (i + 1) hi).2.2 (Nat.succ_pos i)⟩
theorem chB_riN {c:List AV} {k i:Nat} {m:Int} (hi:i < k) (h:¬ riP c m i):chB c k m=false:=chB_no (fun q=>h ⟨(q.1 i hi).1,(q.1 i hi).2,fun h0=>by
 have:=q.2 (i - 1) (by omega)
 rw [show i - 1 + 1=i by omega] at this
 exact this⟩)
def icK1:Code:=bodyC Try.f59
def icK3:Code:=tlC icK1
def icK6:Code:=tlC icK3
def icK7:Code:=(hdC icK3)
def icK9:Code:=tlC icK7
def icK13:Code:=loopC icK9
theorem ic_16 (z:Value) (C:List Int) (m:Int) (hC:C.length≤1000) (hm:0≤m∧m≤1000) (h0b:∀ j,j < (C.length)→0≤intAt (cI C) (j * 1)∧intAt (cI C) (j * 1) < m) (hqic15_1:(ltI C.length C.length)=false) (w:World) (hs:LN):Goes pg 21 icK6 ((qS3_7 C z)) (BaseW.H w hs) (OutH pg Try.f59 21 (.bool (chB (cI C) C.length m)) w):=by
 have hcl_C:=cI_len C
 have ghqic15_1:=lF hqic15_1
 exact gL isR_e (gT cm (known_in) 200 (T':=⟨[(4,(.v (.bool (incB (cI C) C.length))))],[],0,[]⟩) (e:=.ret) (ps:=[IsC (0 + 1) C.length (cI C),C.length≤1000]) [.go,.go] (by kernel_rfl) (by kernel_rfl) ⟨⟨rfl,_,rfl,rfl⟩,(by omega),trivial⟩ rfl) (Hd.en_eq (r:=(.bool (incB (cI C) C.length))) (by rw [chB_inc h0b]) (Hd.en_ret (v:=(.v (.bool (incB (cI C) C.length)))) (by kernel_rfl) rfl))
theorem ic_14 (z:Value) (C:List Int) (m:Int) (hC:C.length≤1000) (hm:0≤m∧m≤1000) (i:Nat) (hi1:i≤C.length) (hi2:∀ j,j < i→0≤intAt (cI C) (j * 1)∧intAt (cI C) (j * 1) < m) (w:World) (hs:LN):Goes pg 21 icK13 (⟨[(qS3_11 C z),(1,(.v (.int .i64 (m)))),(qS3_12 C z),(qS3_9 C),(9,(.v (.int .i64 i)))],[],0,[]⟩) (BaseW.H w hs) (Hd.StepC pg 21 0 (fun i:{i:Nat // i≤C.length∧∀ j,j < i→0≤intAt (cI C) (j * 1)∧intAt (cI C) (j * 1) < m}=>⟨[(qS3_11 C z),(1,(.v (.int .i64 (m)))),(qS3_12 C z),(qS3_9 C),(9,(.v (.int .i64 i.1)))],[],0,[]⟩) (fun i:{i:Nat // i≤C.length∧∀ j,j < i→0≤intAt (cI C) (j * 1)∧intAt (cI C) (j * 1) < m}=>C.length - i.1) icK6 w (OutH pg Try.f59 21 (.bool (chB (cI C) C.length m)) w) (⟨i,hi1,hi2⟩:{i:Nat // i≤C.length∧∀ j,j < i→0≤intAt (cI C) (j * 1)∧intAt (cI C) (j * 1) < m})):=by
 have hcl_C:=cI_len C
 rcases bE (ltI i C.length) with hqic15_1 | hqic15_1
 ·skip
  have ghqic15_1:=lT hqic15_1
  rcases bE (ltI (intAt (cI C) (i * 1)) 0) with hqic15_2 | hqic15_2
  ·skip
   have ghqic15_2:=lT hqic15_2
   exact gL isR_e (gT cm (known_in) 200 (T':=qS3_10) (e:=.ret) (ps:=[ltI i C.length=true,i < C.length,loadL pg (cI C) (i * 1) 3=some (.v (.int .i64 (intAt (cI C) (i * 1)))),inR .i64 (m - 1),(!ltI (intAt (cI C) (i * 1)) 0)=false,false=false,false=false,(!false)=true]) [.go,.b true,.sym,.sym,.go,.go,.go,.go,.go,.go,.go,.go,.go,.b false,.b false,.b false,.go,.go,.go,.b true,.go] (by kernel_rfl) (by kernel_rfl) ⟨hqic15_1,(by omega),(by rw [Nat.mul_one]; exact cI_load (by omega) 3 (u3) rfl),(iRS3 (by omega) (by omega)),(by rw [hqic15_2]; rfl),rfl,rfl,rfl,trivial⟩ rfl) (Hd.en_so (by intro h; cases h) (by intro h; cases h) (Hd.en_eq (r:=(.bool .false)) (by rw [chB_no (fun k9=>by have k8:=k9.1 i (by omega); omega)]) (Hd.en_ret (v:=(.v (.bool .false))) (by kernel_rfl) rfl)))
  ·skip
   have ghqic15_2:=lF hqic15_2
   rcases bE (ltI (m - 1) (intAt (cI C) (i * 1))) with hqic15_3 | hqic15_3
   ·skip
    have ghqic15_3:=lT hqic15_3
    exact gL isR_e (gT cm (known_in) 200 (T':=qS3_10) (e:=.ret) (ps:=[ltI i C.length=true,i < C.length,loadL pg (cI C) (i * 1) 3=some (.v (.int .i64 (intAt (cI C) (i * 1)))),inR .i64 (m - 1),(!ltI (intAt (cI C) (i * 1)) 0)=true,true=true,true=true,(!!ltI (m - 1) (intAt (cI C) (i * 1)))=true]) [.go,.b true,.sym,.sym,.go,.go,.go,.go,.go,.go,.go,.go,.go,.b true,.go,.b true,.go,.b true,.go,.go,.go,.go,.b true,.go] (by kernel_rfl) (by kernel_rfl) ⟨hqic15_1,(by omega),(by rw [Nat.mul_one]; exact cI_load (by omega) 3 (u3) rfl),(iRS3 (by omega) (by omega)),(by rw [hqic15_2]; rfl),rfl,rfl,(by rw [hqic15_3]; rfl),trivial⟩ rfl) (Hd.en_so (by intro h; cases h) (by intro h; cases h) (Hd.en_eq (r:=(.bool .false)) (by rw [chB_no (fun k9=>by have k8:=k9.1 i (by omega); omega)]) (Hd.en_ret (v:=(.v (.bool .false))) (by kernel_rfl) rfl)))
   ·skip
    have ghqic15_3:=lF hqic15_3
    exact gL isN_e (gT cm (known_in) 200 (T':=⟨[(qS3_11 C z),(1,(.v (.int .i64 (m)))),(qS3_12 C z),(qS3_9 C),(9,(.v (.int .i64 (((i + 1):Nat):Int))))],[],0,[]⟩) (e:=.normal) (ps:=[ltI i C.length=true,i < C.length,loadL pg (cI C) (i * 1) 3=some (.v (.int .i64 (intAt (cI C) (i * 1)))),inR .i64 (m - 1),(!ltI (intAt (cI C) (i * 1)) 0)=true,true=true,true=true,(!!ltI (m - 1) (intAt (cI C) (i * 1)))=false,inR .i64 (((i:Nat):Int) + 1)]) [.go,.b true,.sym,.sym,.go,.go,.go,.go,.go,.go,.go,.go,.go,.b true,.go,.b true,.go,.b true,.go,.go,.go,.go,.b false,.go,.go] (by kernel_rfl) (by kernel_rfl) ⟨hqic15_1,(by omega),(by rw [Nat.mul_one]; exact cI_load (by omega) 3 (u3) rfl),(iRS3 (by omega) (by omega)),(by rw [hqic15_2]; rfl),rfl,rfl,(by rw [hqic15_3]; rfl),(iRS3 (by omega) (by omega)),trivial⟩ rfl) (eO (⟨i + 1,by omega,(up_next0 hi2 (by omega))⟩) (by show C.length - (i + 1) < C.length - i; omega) rfl)
 ·skip
  have ghqic15_1:=lF hqic15_1
  obtain rfl:i=C.length:=by omega
  exact gL isX_e (gT cm (known_in) 200 (T':=(qS3_7 C z)) (e:=.exit 0) (ps:=[ltI C.length C.length=false]) [.go,.b false] (by kernel_rfl) (by kernel_rfl) ⟨hqic15_1,trivial⟩ rfl) (Hd.en_sx (ic_16 z C m hC hm hi2  hqic15_1 w hs))
theorem ic_12 (z:Value) (C:List Int) (m:Int) (hC:C.length≤1000) (hm:0≤m∧m≤1000) (w:World) (hs:LN):Goes pg 21 icK9 ((qS3_1 C m z)) (BaseW.H w hs) (Hd.AfterN pg 21 icK6 w (OutH pg Try.f59 21 (.bool (chB (cI C) C.length m)) w)):=by
 have hcl_C:=cI_len C
 exact Hd.goes_loopA (id:=0) (by kernel_rfl) (by kernel_rfl) (fun i:{i:Nat // i≤C.length∧∀ j,j < i→0≤intAt (cI C) (j * 1)∧intAt (cI C) (j * 1) < m}=>⟨[(qS3_11 C z),(1,(.v (.int .i64 (m)))),(qS3_12 C z),(qS3_9 C),(9,(.v (.int .i64 i.1)))],[],0,[]⟩) (fun i:{i:Nat // i≤C.length∧∀ j,j < i→0≤intAt (cI C) (j * 1)∧intAt (cI C) (j * 1) < m}=>C.length - i.1) (fun ix_ hs=>ic_14 z C m hC hm ix_.1 ix_.2.1 ix_.2.2 w hs) ⟨0,Nat.zero_le _,(fun j hj=>by omega)⟩ hs
theorem ic_11 (z:Value) (C:List Int) (m:Int) (hC:C.length≤1000) (hm:0≤m∧m≤1000) (w:World) (hs:LN):Goes pg 21 icK9 ((qS3_1 C m z)) (BaseW.H w hs) (Hd.AfterN pg 21 icK6 w (OutH pg Try.f59 21 (.bool (chB (cI C) C.length m)) w)):=by
 exact ic_12 z C m hC hm w hs
theorem ic_8 (z:Value) (C:List Int) (m:Int) (hC:C.length≤1000) (hm:0≤m∧m≤1000) (w:World) (hs:LN):Goes pg 21 icK7 ((qS3_6 C m z)) (BaseW.H w hs) (Hd.AfterN pg 21 icK6 w (OutH pg Try.f59 21 (.bool (chB (cI C) C.length m)) w)):=by
 have hcl_C:=cI_len C
 refine gS (by kernel_rfl) ?_
 exact gL isN_e (gT cm (known_in) 200 (T':=(qS3_1 C m z)) (e:=.normal) (ps:=[]) [.go,.go,.go] (by kernel_rfl) (by kernel_rfl) trivial rfl) (Hd.en_n (ic_11 z C m hC hm w hs))
theorem ic_5 (z:Value) (C:List Int) (m:Int) (hC:C.length≤1000) (hm:0≤m∧m≤1000) (w:World) (hs:LN):Goes pg 21 icK3 ((qS3_6 C m z)) (BaseW.H w hs) (OutH pg Try.f59 21 (.bool (chB (cI C) C.length m)) w):=by
 exact gS (by kernel_rfl) (ic_8 z C m hC hm w hs)
theorem ic_2 (z:Value) (C:List Int) (m:Int) (hC:C.length≤1000) (hm:0≤m∧m≤1000) (w:World) (hs:LN):Goes pg 21 icK1 (⟨[(0,(.xl z C.length 1 (cI C))),(1,(.v (.int .i64 m)))],[],0,[]⟩) (BaseW.H w hs) (OutH pg Try.f59 21 (.bool (chB (cI C) C.length m)) w):=by
 have hcl_C:=cI_len C
 refine gS (by kernel_rfl) ?_
 exact gL isN_e (gT cm (known_in) 200 (T':=(qS3_6 C m z)) (e:=.normal) (ps:=[]) [.go] (by kernel_rfl) (by kernel_rfl) trivial rfl) (Hd.en_n (ic_5 z C m hC hm w hs))
theorem choice_g (z:Value) (C:List Int) (m:Int) (hC:C.length≤1000) (hm:0≤m∧m≤1000):GivesA pg 59 [(.xl z C.length 1 (cI C)),(.v (.int .i64 m))] (.bool (chB (cI C) C.length m)) :=
 givesA_partsH 21 Try.func59 (by kernel_rfl) (by kernel_rfl) (by kernel_rfl) (fun w=>goes_less (by kernel_rfl) (by kernel_rfl) (by kernel_rfl) (by kernel_rfl) (ic_2 z C m hC hm w []))
def riK1:Code:=bodyC Try.f49
def riK3:Code:=tlC riK1
def riK6:Code:=tlC riK3
def riK7:Code:=(hdC riK3)
def riK9:Code:=tlC riK7
def riK13:Code:=loopC riK9
theorem ri_16 (z:Value) (C:List Int) (m:Int) (hC:C.length≤1000) (h0b:∀ j,j < (C.length)→riP (cI C) m j) (hqri15_1:(ltI C.length C.length)=false) (w:World) (hs:LN):Goes pg 41 riK6 (⟨[],[],0,[]⟩) (BaseW.H w hs) (OutH pg Try.f49 41 (.bool (chB (cI C) C.length m)) w):=by
 have hcl_C:=cI_len C
 have ghqri15_1:=lF hqri15_1
 exact gL isR_e (gT cm (kN) 200 (T':=⟨[(4,(.v (.bool .true)))],[],0,[]⟩) (e:=.ret) (ps:=[]) [.go] (by kernel_rfl) (by kernel_rfl) trivial rfl) (Hd.en_eq (r:=(.bool .true)) (by rw [chB_ri h0b]) (Hd.en_ret (v:=(.v (.bool .true))) (by kernel_rfl) rfl))
theorem ri_14 (z:Value) (C:List Int) (m:Int) (hC:C.length≤1000) (i:Nat) (hi1:i≤C.length) (hi2:∀ j,j < i→riP (cI C) m j) (w:World) (hs:LN):Goes pg 41 riK13 (⟨[(qS3_11 C z),(1,(.v (.int .i64 (m)))),(5,(.v (.int .i64 i)))],[],0,[]⟩) (BaseW.H w hs) (Hd.StepC pg 41 0 (fun i:{i:Nat // i≤C.length∧∀ j,j < i→riP (cI C) m j}=>⟨[(qS3_11 C z),(1,(.v (.int .i64 (m)))),(5,(.v (.int .i64 i.1)))],[],0,[]⟩) (fun i:{i:Nat // i≤C.length∧∀ j,j < i→riP (cI C) m j}=>C.length - i.1) riK6 w (OutH pg Try.f49 41 (.bool (chB (cI C) C.length m)) w) (⟨i,hi1,hi2⟩:{i:Nat // i≤C.length∧∀ j,j < i→riP (cI C) m j})):=by
 have hcl_C:=cI_len C
 rcases bE (ltI i C.length) with hqri15_1 | hqri15_1
 ·skip
  have ghqri15_1:=lT hqri15_1
  have hj1:(((i:Nat):Int) - 1).toNat=i - 1:=by omega
  rcases bE (ltI (intAt (cI C) (i * 1)) 0) with hqri15_2 | hqri15_2
  ·skip
   have ghqri15_2:=lT hqri15_2
   exact gL isR_e (gT cm (kN) 200 (T':=qS3_10) (e:=.ret) (ps:=[ltI i C.length=true,i < C.length,loadL pg (cI C) (i * 1) 3=some (.v (.int .i64 (intAt (cI C) (i * 1)))),ltI (intAt (cI C) (i * 1)) 0=true,true=true,true=true,true=true,true=true,true=true,true=true,true=true,true=true,true=true,true=true]) [.go,.go,.go,.go,.b true,.go,.go,.sym,.sym,.go,.go,.b true,.b true,.b true,.b true,.b true,.b true,.go,.go,.b true,.b true,.b true,.b true,.go,.b true,.go] (by kernel_rfl) (by kernel_rfl) ⟨hqri15_1,(by omega),(by rw [Nat.mul_one]; exact cI_load (by omega) 3 (u3) rfl),hqri15_2,rfl,rfl,rfl,rfl,rfl,rfl,rfl,rfl,rfl,rfl,trivial⟩ rfl) (Hd.en_so (by intro h; cases h) (by intro h; cases h) (Hd.en_eq (r:=(.bool .false)) (by rw [chB_riN (i:=i) (by omega) (fun k9=>by unfold riP at k9; omega)]) (Hd.en_ret (v:=(.v (.bool .false))) (by kernel_rfl) rfl)))
  ·skip
   have ghqri15_2:=lF hqri15_2
   rcases bE (ltI (intAt (cI C) (i * 1)) m) with hqri15_3 | hqri15_3
   ·skip
    have ghqri15_3:=lT hqri15_3
    rcases bE (ltI 0 i) with hqri15_4 | hqri15_4
    ·skip
     have ghqri15_4:=lT hqri15_4
     rcases bE (ltI (intAt (cI C) ((((i:Nat):Int) - 1).toNat * 1)) (intAt (cI C) (i * 1))) with hqri15_5 | hqri15_5
     ·skip
      have ghqri15_5:=lT hqri15_5
      rw [hj1] at ghqri15_5
      exact gL isN_e (gT cm (kN) 200 (T':=(qS3_4 C i m z)) (e:=.normal) (ps:=[ltI i C.length=true,i < C.length,loadL pg (cI C) (i * 1) 3=some (.v (.int .i64 (intAt (cI C) (i * 1)))),ltI (intAt (cI C) (i * 1)) 0=false,false=false,false=false,i < C.length,false=false,loadL pg (cI C) (i * 1) 3=some (.v (.int .i64 (intAt (cI C) (i * 1)))),false=false,false=false,(!ltI (intAt (cI C) (i * 1)) m)=false,false=false,false=false,ltI 0 i=true,true=true,true=true,i < C.length,true=true,loadL pg (cI C) (i * 1) 3=some (.v (.int .i64 (intAt (cI C) (i * 1)))),true=true,true=true,true=true,inR .i64 (((i:Nat):Int) - 1),true=true,(0:Int)≤((i:Nat):Int) - 1,(((i:Nat):Int) - 1).toNat < C.length,true=true,loadL pg (cI C) ((((i:Nat):Int) - 1).toNat * 1) 3=some (.v (.int .i64 (intAt (cI C) ((((i:Nat):Int) - 1).toNat * 1)))),true=true,false=false,(!ltI (intAt (cI C) ((((i:Nat):Int) - 1).toNat * 1)) (intAt (cI C) (i * 1)))=false,inR .i64 (((i:Nat):Int) + 1)]) [.go,.go,.go,.go,.b true,.go,.go,.sym,.sym,.go,.go,.b false,.go,.b false,.go,.b false,.sym,.b false,.sym,.b false,.go,.b false,.go,.go,.go,.b false,.go,.b false,.go,.b false,.go,.b true,.go,.b true,.go,.b true,.sym,.b true,.sym,.b true,.go,.b true,.go,.b true,.go,.b true,.nat,.b true,.sym,.b true,.go,.b false,.go,.go,.b false,.go,.go,.go] (by kernel_rfl) (by kernel_rfl) ⟨hqri15_1,(by omega),(by rw [Nat.mul_one]; exact cI_load (by omega) 3 (u3) rfl),hqri15_2,rfl,rfl,(by omega),rfl,(by rw [Nat.mul_one]; exact cI_load (by omega) 3 (u3) rfl),rfl,rfl,(by rw [hqri15_3]; rfl),rfl,rfl,hqri15_4,rfl,rfl,(by omega),rfl,(by rw [Nat.mul_one]; exact cI_load (by omega) 3 (u3) rfl),rfl,rfl,rfl,(iRS3 (by omega) (by omega)),rfl,(by omega),(by omega),rfl,(by rw [Nat.mul_one]; exact cI_load (by omega) 3 (u3) rfl),rfl,rfl,(by rw [hqri15_5]; rfl),(iRS3 (by omega) (by omega)),trivial⟩ rfl) (eO (⟨i + 1,by omega,(up_next0 hi2 (by unfold riP; refine ⟨by omega,by omega,fun h9=>?_⟩; omega))⟩) (by show C.length - (i + 1) < C.length - i; omega) rfl)
     ·skip
      have ghqri15_5:=lF hqri15_5
      rw [hj1] at ghqri15_5
      exact gL isR_e (gT cm (kN) 200 (T':=qS3_10) (e:=.ret) (ps:=[ltI i C.length=true,i < C.length,loadL pg (cI C) (i * 1) 3=some (.v (.int .i64 (intAt (cI C) (i * 1)))),ltI (intAt (cI C) (i * 1)) 0=false,false=false,false=false,i < C.length,false=false,loadL pg (cI C) (i * 1) 3=some (.v (.int .i64 (intAt (cI C) (i * 1)))),false=false,false=false,(!ltI (intAt (cI C) (i * 1)) m)=false,false=false,false=false,ltI 0 i=true,true=true,true=true,i < C.length,true=true,loadL pg (cI C) (i * 1) 3=some (.v (.int .i64 (intAt (cI C) (i * 1)))),true=true,true=true,true=true,inR .i64 (((i:Nat):Int) - 1),true=true,(0:Int)≤((i:Nat):Int) - 1,(((i:Nat):Int) - 1).toNat < C.length,true=true,loadL pg (cI C) ((((i:Nat):Int) - 1).toNat * 1) 3=some (.v (.int .i64 (intAt (cI C) ((((i:Nat):Int) - 1).toNat * 1)))),true=true,false=false,(!ltI (intAt (cI C) ((((i:Nat):Int) - 1).toNat * 1)) (intAt (cI C) (i * 1)))=true]) [.go,.go,.go,.go,.b true,.go,.go,.sym,.sym,.go,.go,.b false,.go,.b false,.go,.b false,.sym,.b false,.sym,.b false,.go,.b false,.go,.go,.go,.b false,.go,.b false,.go,.b false,.go,.b true,.go,.b true,.go,.b true,.sym,.b true,.sym,.b true,.go,.b true,.go,.b true,.go,.b true,.nat,.b true,.sym,.b true,.go,.b false,.go,.go,.b true,.go] (by kernel_rfl) (by kernel_rfl) ⟨hqri15_1,(by omega),(by rw [Nat.mul_one]; exact cI_load (by omega) 3 (u3) rfl),hqri15_2,rfl,rfl,(by omega),rfl,(by rw [Nat.mul_one]; exact cI_load (by omega) 3 (u3) rfl),rfl,rfl,(by rw [hqri15_3]; rfl),rfl,rfl,hqri15_4,rfl,rfl,(by omega),rfl,(by rw [Nat.mul_one]; exact cI_load (by omega) 3 (u3) rfl),rfl,rfl,rfl,(iRS3 (by omega) (by omega)),rfl,(by omega),(by omega),rfl,(by rw [Nat.mul_one]; exact cI_load (by omega) 3 (u3) rfl),rfl,rfl,(by rw [hqri15_5]; rfl),trivial⟩ rfl) (Hd.en_so (by intro h; cases h) (by intro h; cases h) (Hd.en_eq (r:=(.bool .false)) (by rw [chB_riN (i:=i) (by omega) (fun k9=>by unfold riP at k9; omega)]) (Hd.en_ret (v:=(.v (.bool .false))) (by kernel_rfl) rfl)))
    ·skip
     have ghqri15_4:=lF hqri15_4
     exact gL isN_e (gT cm (kN) 200 (T':=(qS3_4 C i m z)) (e:=.normal) (ps:=[ltI i C.length=true,i < C.length,loadL pg (cI C) (i * 1) 3=some (.v (.int .i64 (intAt (cI C) (i * 1)))),ltI (intAt (cI C) (i * 1)) 0=false,false=false,false=false,i < C.length,false=false,loadL pg (cI C) (i * 1) 3=some (.v (.int .i64 (intAt (cI C) (i * 1)))),false=false,false=false,(!ltI (intAt (cI C) (i * 1)) m)=false,false=false,false=false,ltI 0 i=false,false=false,false=false,false=false,false=false,false=false,false=false,false=false,false=false,false=false,false=false,false=false,inR .i64 (((i:Nat):Int) + 1)]) [.go,.go,.go,.go,.b true,.go,.go,.sym,.sym,.go,.go,.b false,.go,.b false,.go,.b false,.sym,.b false,.sym,.b false,.go,.b false,.go,.go,.go,.b false,.go,.b false,.go,.b false,.go,.b false,.b false,.b false,.b false,.b false,.b false,.b false,.b false,.b false,.b false,.b false,.go,.go,.b false,.go,.go,.go] (by kernel_rfl) (by kernel_rfl) ⟨hqri15_1,(by omega),(by rw [Nat.mul_one]; exact cI_load (by omega) 3 (u3) rfl),hqri15_2,rfl,rfl,(by omega),rfl,(by rw [Nat.mul_one]; exact cI_load (by omega) 3 (u3) rfl),rfl,rfl,(by rw [hqri15_3]; rfl),rfl,rfl,hqri15_4,rfl,rfl,rfl,rfl,rfl,rfl,rfl,rfl,rfl,rfl,rfl,(iRS3 (by omega) (by omega)),trivial⟩ rfl) (eO (⟨i + 1,by omega,(up_next0 hi2 (by unfold riP; refine ⟨by omega,by omega,fun h9=>?_⟩; omega))⟩) (by show C.length - (i + 1) < C.length - i; omega) rfl)
   ·skip
    have ghqri15_3:=lF hqri15_3
    exact gL isR_e (gT cm (kN) 200 (T':=qS3_10) (e:=.ret) (ps:=[ltI i C.length=true,i < C.length,loadL pg (cI C) (i * 1) 3=some (.v (.int .i64 (intAt (cI C) (i * 1)))),ltI (intAt (cI C) (i * 1)) 0=false,false=false,false=false,i < C.length,false=false,loadL pg (cI C) (i * 1) 3=some (.v (.int .i64 (intAt (cI C) (i * 1)))),false=false,false=false,(!ltI (intAt (cI C) (i * 1)) m)=true,true=true,true=true,true=true,true=true]) [.go,.go,.go,.go,.b true,.go,.go,.sym,.sym,.go,.go,.b false,.go,.b false,.go,.b false,.sym,.b false,.sym,.b false,.go,.b false,.go,.go,.go,.b true,.b true,.b true,.b true,.go,.b true,.go] (by kernel_rfl) (by kernel_rfl) ⟨hqri15_1,(by omega),(by rw [Nat.mul_one]; exact cI_load (by omega) 3 (u3) rfl),hqri15_2,rfl,rfl,(by omega),rfl,(by rw [Nat.mul_one]; exact cI_load (by omega) 3 (u3) rfl),rfl,rfl,(by rw [hqri15_3]; rfl),rfl,rfl,rfl,rfl,trivial⟩ rfl) (Hd.en_so (by intro h; cases h) (by intro h; cases h) (Hd.en_eq (r:=(.bool .false)) (by rw [chB_riN (i:=i) (by omega) (fun k9=>by unfold riP at k9; omega)]) (Hd.en_ret (v:=(.v (.bool .false))) (by kernel_rfl) rfl)))
 ·skip
  have ghqri15_1:=lF hqri15_1
  obtain rfl:i=C.length:=by omega
  exact gL isX_e (gT cm (kN) 200 (T':=⟨[],[],0,[]⟩) (e:=.exit 0) (ps:=[ltI C.length C.length=false]) [.go,.go,.go,.go,.b false] (by kernel_rfl) (by kernel_rfl) ⟨hqri15_1,trivial⟩ rfl) (Hd.en_sx (ri_16 z C m hC hi2  hqri15_1 w hs))
theorem ri_12 (z:Value) (C:List Int) (m:Int) (hC:C.length≤1000) (w:World) (hs:LN):Goes pg 41 riK9 ((qS3_5 C m z)) (BaseW.H w hs) (Hd.AfterN pg 41 riK6 w (OutH pg Try.f49 41 (.bool (chB (cI C) C.length m)) w)):=by
 have hcl_C:=cI_len C
 exact Hd.goes_loopA (id:=0) (by kernel_rfl) (by kernel_rfl) (fun i:{i:Nat // i≤C.length∧∀ j,j < i→riP (cI C) m j}=>⟨[(qS3_11 C z),(1,(.v (.int .i64 (m)))),(5,(.v (.int .i64 i.1)))],[],0,[]⟩) (fun i:{i:Nat // i≤C.length∧∀ j,j < i→riP (cI C) m j}=>C.length - i.1) (fun ix_ hs=>ri_14 z C m hC ix_.1 ix_.2.1 ix_.2.2 w hs) ⟨0,Nat.zero_le _,(fun j hj=>by omega)⟩ hs
theorem ri_11 (z:Value) (C:List Int) (m:Int) (hC:C.length≤1000) (w:World) (hs:LN):Goes pg 41 riK9 ((qS3_5 C m z)) (BaseW.H w hs) (Hd.AfterN pg 41 riK6 w (OutH pg Try.f49 41 (.bool (chB (cI C) C.length m)) w)):=by
 exact ri_12 z C m hC w hs
theorem ri_8 (z:Value) (C:List Int) (m:Int) (hC:C.length≤1000) (w:World) (hs:LN):Goes pg 41 riK7 ((qS3_6 C m z)) (BaseW.H w hs) (Hd.AfterN pg 41 riK6 w (OutH pg Try.f49 41 (.bool (chB (cI C) C.length m)) w)):=by
 have hcl_C:=cI_len C
 refine gS (by kernel_rfl) ?_
 exact gL isN_e (gT cm (kN) 200 (T':=(qS3_5 C m z)) (e:=.normal) (ps:=[]) [.go] (by kernel_rfl) (by kernel_rfl) trivial rfl) (Hd.en_n (ri_11 z C m hC w hs))
theorem ri_5 (z:Value) (C:List Int) (m:Int) (hC:C.length≤1000) (w:World) (hs:LN):Goes pg 41 riK3 ((qS3_6 C m z)) (BaseW.H w hs) (OutH pg Try.f49 41 (.bool (chB (cI C) C.length m)) w):=by
 exact gS (by kernel_rfl) (ri_8 z C m hC w hs)
theorem ri_2 (z:Value) (C:List Int) (m:Int) (hC:C.length≤1000) (w:World) (hs:LN):Goes pg 41 riK1 (⟨[(0,(.xl z C.length 1 (cI C))),(1,(.v (.int .i64 m)))],[],0,[]⟩) (BaseW.H w hs) (OutH pg Try.f49 41 (.bool (chB (cI C) C.length m)) w):=by
 have hcl_C:=cI_len C
 refine gS (by kernel_rfl) ?_
 exact gL isN_e (gT cm (kN) 200 (T':=(qS3_6 C m z)) (e:=.normal) (ps:=[]) [.go] (by kernel_rfl) (by kernel_rfl) trivial rfl) (Hd.en_n (ri_5 z C m hC w hs))
theorem rising_g (z:Value) (C:List Int) (m:Int) (hC:C.length≤1000):GivesA pg 49 [(.xl z C.length 1 (cI C)),(.v (.int .i64 m))] (.bool (chB (cI C) C.length m)) :=
 givesA_partsH 41 Try.func49 (by kernel_rfl) (by kernel_rfl) (by kernel_rfl) (fun w=>goes_less (by kernel_rfl) (by kernel_rfl) (by kernel_rfl) (by kernel_rfl) (ri_2 z C m hC w []))
end
end Go.Proofs.Ytnphldmnakbknaa
