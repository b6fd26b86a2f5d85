import Derived.Test.YtnphldmnakbknaaK6
set_option maxHeartbeats 4000000
set_option linter.all false
/- CheckDark of the reference. -/
namespace Go.Proofs.Ytnphldmnakbknaa
open Go Ev
noncomputable section
section
variable (C D : List Int) (P : PL) (d : Int) (j n : Nat) (nI p q : Int) (y z z0 : Value)
abbrev qK8_12:Nat×Ev.AV:=(1,(.xl (z) (C.length) 1 (cI C)))
abbrev qK8_11:Nat×Ev.AV:=(3,(.xl (z0) (D.length) 1 (cI D)))
abbrev qK8_6:Nat×Ev.AB:=(0,(.cells [(.v (.int .i64 n)),(.v (.int .i64 (d))),(.v (.int .i64 (q))),(.xl (y) (P.length) 3 (cT P))] 24))
abbrev qK8_1:Ev.Lit:=⟨[(qK8_12 C z),(2,(.v (.int .i64 (p)))),(qK8_11 D z0),(4,(.ptr 0 0)),(10,(.v (.int .i64 (((j + 1):Nat):Int))))],[],1,[(qK8_6 P d n q y)]⟩
abbrev qK8_2:Ev.Lit:=⟨[(qK8_12 C z),(2,(.v (.int .i64 (p)))),(qK8_11 D z0),(4,(.ptr 0 0)),(10,(.v (.int .i64 (.ofNat 0))))],[],1,[(qK8_6 P d n q y)]⟩
abbrev qK8_3:Ev.Lit:=⟨[(qK8_12 C z),(2,(.v (.int .i64 (p)))),(qK8_11 D z0),(4,(.ptr 0 0)),(9,(.v (.int .i64 (.ofNat 0))))],[],1,[(qK8_6 P d n q y)]⟩
abbrev qK8_4:Ev.Lit:=⟨[(qK8_12 C z),(2,(.v (.int .i64 (p)))),(qK8_11 D z0),(4,(.ptr 0 0))],[],1,[(qK8_6 P d n q y)]⟩
abbrev qK8_5:Ev.Lit:=⟨[(qK8_12 C z),(2,(.v (.int .i64 (p)))),(qK8_11 D z0),(4,(.ptr 0 0))],[],1,[(0,(.cells [(.v (.int .i64 (nI))),(.v (.int .i64 (d))),(.v (.int .i64 (q))),(.xl (y) (P.length) 3 (cT P))] 24))]⟩
abbrev qK8_7:=(cdE n d q (cT P) P.length (cI C) C.length p (cI D) D.length)
abbrev qK8_8:=(eqI (icE n d q (cT P) P.length (cI C) C.length) 0)
abbrev qK8_9:Ev.Lit:=⟨[(8,(.v (.int .i64 (.ofNat 3))))],[],1,[]⟩
abbrev qK8_10:=(icE nI d q (cT P) P.length (cI C) C.length)
end
def rdbK1:Code:=bodyC Try.f23
def rdbK3:Code:=tlC rdbK1
theorem rdb_5 (nI d q:Int) (y:Value) (P:PL) (z:Value) (C:List Int) (p:Int) (z0:Value) (D:List Int) (hE:¬ icE nI d q (cT P) P.length (cI C) C.length=0) (hC:C.length≤1000) (hD:D.length≤1000) (w:World) (hs:LN):Goes pg 76 rdbK3 ((qK8_5 C D P d nI p q y z z0)) (BaseW.H w hs) (OutH pg Try.f23 76 (.int .i64 (cdE nI d q (cT P) P.length (cI C) C.length p (cI D) D.length)) w):=by
 have hcl_C:=cI_len C
 have hcl_D:=cI_len D
 refine gS (by kernel_rfl) ?_
 rcases bE (eqI (qK8_10 C P d nI q) 0) with hqrdb7_1 | hqrdb7_1
 ·skip
  have ghqrdb7_1:=eqI_true hqrdb7_1
  exact absurd (eqI_true hqrdb7_1) hE
 ·skip
  have ghqrdb7_1:=eqI_false hqrdb7_1
  exact gL isR_e (gT cm (known_o4) 200 (T':=⟨[(8,(.v (.int .i64 (qK8_10 C P d nI q))))],[],1,[]⟩) (e:=.ret) (ps:=[IsT P.length (cT P),IsC 1 C.length (cI C),C.length≤1000,(!eqI (qK8_10 C P d nI q) 0)=true,IsT P.length (cT P),IsC 1 C.length (cI C),C.length≤1000]) [.go,.go,.go,.b true,.go,.go,.go] (by kernel_rfl) (by kernel_rfl) ⟨⟨P,rfl,rfl⟩,⟨rfl,_,rfl,rfl⟩,hC,(by rw [hqrdb7_1]; rfl),⟨P,rfl,rfl⟩,⟨rfl,_,rfl,rfl⟩,hC,trivial⟩ rfl) (Hd.en_o (by intro h; cases h) (Hd.en_eq (r:=(.int .i64 (qK8_10 C P d nI q))) (by rw [cdE_bad hE]) (Hd.en_ret (v:=(.v (.int .i64 (qK8_10 C P d nI q)))) (by kernel_rfl) rfl)))
theorem rdb_2 (nI d q:Int) (y:Value) (P:PL) (z:Value) (C:List Int) (p:Int) (z0:Value) (D:List Int) (hE:¬ icE nI d q (cT P) P.length (cI C) C.length=0) (hC:C.length≤1000) (hD:D.length≤1000) (w:World) (hs:LN):Goes pg 76 rdbK1 (⟨[(0,(.agg [.v (.int .i64 nI),.v (.int .i64 d),.v (.int .i64 q),.xl y P.length 3 (cT P)])),(1,(.xl z C.length 1 (cI C))),(2,(.v (.int .i64 p))),(3,(.xl z0 D.length 1 (cI D)))],[],0,[]⟩) (BaseW.H w hs) (OutH pg Try.f23 76 (.int .i64 (cdE nI d q (cT P) P.length (cI C) C.length p (cI D) D.length)) w):=by
 have hcl_C:=cI_len C
 have hcl_D:=cI_len D
 refine gS (by kernel_rfl) ?_
 exact gL isN_e (gT cm (known_o4) 200 (T':=(qK8_5 C D P d nI p q y z z0)) (e:=.normal) (ps:=[]) [.go,.go] (by kernel_rfl) (by kernel_rfl) trivial rfl) (Hd.en_n (rdb_5 nI d q y P z C p z0 D hE hC hD w hs))
theorem rdb (nI d q:Int) (y:Value) (P:PL) (z:Value) (C:List Int) (p:Int) (z0:Value) (D:List Int) (hE:¬ icE nI d q (cT P) P.length (cI C) C.length=0) (hC:C.length≤1000) (hD:D.length≤1000):GivesA pg 23 [(.agg [.v (.int .i64 nI),.v (.int .i64 d),.v (.int .i64 q),.xl y P.length 3 (cT P)]),(.xl z C.length 1 (cI C)),(.v (.int .i64 p)),(.xl z0 D.length 1 (cI D))] (.int .i64 (cdE nI d q (cT P) P.length (cI C) C.length p (cI D) D.length)) :=
 givesA_partsH 76 Try.func23 (by kernel_rfl) (by kernel_rfl) (by kernel_rfl) (fun w=>goes_less (by kernel_rfl) (by kernel_rfl) (by kernel_rfl) (by kernel_rfl) (rdb_2 nI d q y P z C p z0 D hE hC hD w []))
def rdgK1:Code:=bodyC Try.f23
def rdgK3:Code:=tlC rdgK1
def rdgK6:Code:=tlC rdgK3
def rdgK9:Code:=tlC rdgK6
def rdgK12:Code:=tlC rdgK9
def rdgK13:Code:=(hdC rdgK9)
def rdgK15:Code:=tlC rdgK13
def rdgK19:Code:=loopC rdgK15
def rdgK23:Code:=tlC rdgK12
def rdgK24:Code:=(hdC rdgK12)
def rdgK26:Code:=tlC rdgK24
def rdgK30:Code:=loopC rdgK26
theorem rdg_33 (n:Nat) (d q:Int) (y:Value) (P:PL) (z:Value) (C:List Int) (p:Int) (z0:Value) (D:List Int) (hE:icE n d q (cT P) P.length (cI C) C.length=0) (hC:C.length≤1000) (hD:D.length≤1000) (hqrdg7_1:(eqI (icE n d q (cT P) P.length (cI C) C.length) 0)=true) (hqrdg10_1:(ltI p 0)=false) (hqrdg10_2:(ltI p n)=true) (hqrdg10_3:(ltI d D.length)=false) (hqrdg10_4:(chB (cI D) D.length P.length)=true) (h0b:∀ j,j < (D.length)→inB (cI C) C.length (intAt (cI D) (j * 1))=true) (hqrdg21_1:(ltI D.length D.length)=false) (h2b:∀ k,k < (C.length)→inB (cI D) D.length (intAt (cI C) (k * 1))=true∨¬ lgP (cT P) q (intAt (cI C) (k * 1)).toNat p.toNat) (hqrdg32_1:(ltI C.length C.length)=false) (w:World) (hs:LN):Goes pg 76 rdgK23 (⟨[],[],1,[]⟩) (BaseW.H w hs) (OutH pg Try.f23 76 (.int .i64 (cdE n d q (cT P) P.length (cI C) C.length p (cI D) D.length)) w):=by
 have hcl_C:=cI_len C
 have hcl_D:=cI_len D
 obtain ⟨hR,hch⟩:=icE_zero hE
 obtain ⟨hm,⟨ha1,ha2,ha3⟩,hp⟩:=roE_zero hR
 have hcl_D:=cI_len D
 have ghqrdg7_1:=eqI_true hqrdg7_1
 have ghqrdg10_1:=lF hqrdg10_1
 have ghqrdg10_2:=lT hqrdg10_2
 have ghqrdg10_3:=lF hqrdg10_3
 have ghqrdg21_1:=lF hqrdg21_1
 have ghqrdg32_1:=lF hqrdg32_1
 exact gL isR_e (gT cm (known_o4) 200 (T':=⟨[(8,(.v (.int .i64 (.ofNat 0))))],[],1,[]⟩) (e:=.ret) (ps:=[]) [.go] (by kernel_rfl) (by kernel_rfl) trivial rfl) (Hd.en_eq (r:=(.int .i64 0)) (by rw [cdE_ok hE ⟨⟨by omega,by omega⟩,by omega,incB_true.2 (chB_true.1 hqrdg10_4).2,fun j hj=>h0b j (by omega)⟩ (lvB_no (fun ⟨i,a,b,c⟩=>(h2b i a).elim (fun q1=>by rw [b] at q1; cases q1) (fun q1=>q1 c)))]) (Hd.en_ret (v:=(.v (.int .i64 (.ofNat 0)))) (by kernel_rfl) rfl))
theorem rdg_31 (n:Nat) (d q:Int) (y:Value) (P:PL) (z:Value) (C:List Int) (p:Int) (z0:Value) (D:List Int) (hE:icE n d q (cT P) P.length (cI C) C.length=0) (hC:C.length≤1000) (hD:D.length≤1000) (hqrdg7_1:(eqI (icE n d q (cT P) P.length (cI C) C.length) 0)=true) (hqrdg10_1:(ltI p 0)=false) (hqrdg10_2:(ltI p n)=true) (hqrdg10_3:(ltI d D.length)=false) (hqrdg10_4:(chB (cI D) D.length P.length)=true) (h0b:∀ j,j < (D.length)→inB (cI C) C.length (intAt (cI D) (j * 1))=true) (hqrdg21_1:(ltI D.length D.length)=false) (j:Nat) (hj1:j≤C.length) (hj2:∀ k,k < j→inB (cI D) D.length (intAt (cI C) (k * 1))=true∨¬ lgP (cT P) q (intAt (cI C) (k * 1)).toNat p.toNat) (w:World) (hs:LN):Goes pg 76 rdgK30 (⟨[(qK8_12 C z),(2,(.v (.int .i64 (p)))),(qK8_11 D z0),(4,(.ptr 0 0)),(10,(.v (.int .i64 j)))],[],1,[(qK8_6 P d n q y)]⟩) (BaseW.H w hs) (Hd.StepC pg 76 2 (fun j:{j:Nat // j≤C.length∧∀ k,k < j→inB (cI D) D.length (intAt (cI C) (k * 1))=true∨¬ lgP (cT P) q (intAt (cI C) (k * 1)).toNat p.toNat}=>⟨[(qK8_12 C z),(2,(.v (.int .i64 (p)))),(qK8_11 D z0),(4,(.ptr 0 0)),(10,(.v (.int .i64 j.1)))],[],1,[(qK8_6 P d n q y)]⟩) (fun j:{j:Nat // j≤C.length∧∀ k,k < j→inB (cI D) D.length (intAt (cI C) (k * 1))=true∨¬ lgP (cT P) q (intAt (cI C) (k * 1)).toNat p.toNat}=>C.length - j.1) rdgK23 w (OutH pg Try.f23 76 (.int .i64 (cdE n d q (cT P) P.length (cI C) C.length p (cI D) D.length)) w) (⟨j,hj1,hj2⟩:{j:Nat // j≤C.length∧∀ k,k < j→inB (cI D) D.length (intAt (cI C) (k * 1))=true∨¬ lgP (cT P) q (intAt (cI C) (k * 1)).toNat p.toNat})):=by
 have hcl_C:=cI_len C
 have hcl_D:=cI_len D
 obtain ⟨hR,hch⟩:=icE_zero hE
 obtain ⟨hm,⟨ha1,ha2,ha3⟩,hp⟩:=roE_zero hR
 have hcl_D:=cI_len D
 have ghqrdg7_1:=eqI_true hqrdg7_1
 have ghqrdg10_1:=lF hqrdg10_1
 have ghqrdg10_2:=lT hqrdg10_2
 have ghqrdg10_3:=lF hqrdg10_3
 have ghqrdg21_1:=lF hqrdg21_1
 rcases bE (ltI j C.length) with hqrdg32_1 | hqrdg32_1
 ·skip
  have ghqrdg32_1:=lT hqrdg32_1
  have hci:=hch.1 j (by omega)
  rcases bE (inB (cI D) D.length (intAt (cI C) (j * 1))) with hqrdg32_2 | hqrdg32_2
  ·skip
   exact gL isN_e (gT cm (known_o4) 200 (T':=(qK8_1 C D P d j n p q y z z0)) (e:=.normal) (ps:=[ltI j C.length=true,j < C.length,loadL pg (cI C) (j * 1) 3=some (.v (.int .i64 (intAt (cI C) (j * 1)))),IsC (0 + 1) D.length (cI D),D.length≤1000,(!inB (cI D) D.length (intAt (cI C) (j * 1)))=false,false=false,false=false,false=false,false=false,false=false,false=false,false=false,inR .i64 (((j:Nat):Int) + 1)]) [.go,.go,.go,.go,.b true,.go,.go,.go,.sym,.sym,.go,.go,.b false,.b false,.b false,.b false,.b false,.b false,.b false,.go,.b false,.go,.go,.go] (by kernel_rfl) (by kernel_rfl) ⟨hqrdg32_1,(by omega),(by rw [Nat.mul_one]; exact cI_load (by omega) 3 (u3) rfl),⟨rfl,_,rfl,rfl⟩,(by omega),(by rw [hqrdg32_2]; rfl),rfl,rfl,rfl,rfl,rfl,rfl,rfl,(by show -9223372036854775808≤_∧_≤9223372036854775807; constructor <;> omega),trivial⟩ rfl) (eO (⟨j + 1,by omega,(up_next0 hj2 (by first | exact Or.inl hqrdg32_2 | exact Or.inr (lgB_f hE)))⟩) (by show C.length - (j + 1) < C.length - j; omega) rfl)
  ·skip
   rcases bE (lgB (cT P) q (intAt (cI C) (j * 1)).toNat p.toNat) with hqrdg32_3 | hqrdg32_3
   ·skip
    exact gL isR_e (gT cm (known_o4) 200 (T':=⟨[(8,(.v (.int .i64 (.ofNat 14))))],[],1,[]⟩) (e:=.ret) (ps:=[ltI j C.length=true,j < C.length,loadL pg (cI C) (j * 1) 3=some (.v (.int .i64 (intAt (cI C) (j * 1)))),IsC (0 + 1) D.length (cI D),D.length≤1000,(!inB (cI D) D.length (intAt (cI C) (j * 1)))=true,true=true,true=true,true=true,j < C.length,true=true,loadL pg (cI C) (j * 1) 3=some (.v (.int .i64 (intAt (cI C) (j * 1)))),true=true,true=true,IsT P.length (cT P),roE n d q (cT P) P.length=0,0≤intAt (cI C) (j * 1)∧intAt (cI C) (j * 1) < ((P.length:Nat):Int),0≤p∧p≤1000,lgB (cT P) q (intAt (cI C) (j * 1)).toNat p.toNat=true]) [.go,.go,.go,.go,.b true,.go,.go,.go,.sym,.sym,.go,.go,.b true,.go,.b true,.go,.b true,.go,.b true,.sym,.b true,.sym,.b true,.go,.b true,.go,.b true,.go] (by kernel_rfl) (by kernel_rfl) ⟨hqrdg32_1,(by omega),(by rw [Nat.mul_one]; exact cI_load (by omega) 3 (u3) rfl),⟨rfl,_,rfl,rfl⟩,(by omega),(by rw [hqrdg32_2]; rfl),rfl,rfl,rfl,(by omega),rfl,(by rw [Nat.mul_one]; exact cI_load (by omega) 3 (u3) rfl),rfl,rfl,⟨P,rfl,rfl⟩,hR,(by omega),⟨by omega,by omega⟩,hqrdg32_3,trivial⟩ rfl) (Hd.en_so (by intro h; cases h) (by intro h; cases h) (Hd.en_eq (r:=(.int .i64 14)) (by rw [cdE_lv hE ⟨⟨by omega,by omega⟩,by omega,incB_true.2 (chB_true.1 hqrdg10_4).2,fun j hj=>h0b j (by omega)⟩ (lvB_true.2 ⟨j,by omega,hqrdg32_2,lgB_true.1 hqrdg32_3⟩)]) (Hd.en_ret (v:=(.v (.int .i64 (.ofNat 14)))) (by kernel_rfl) rfl)))
   ·skip
    exact gL isN_e (gT cm (known_o4) 200 (T':=(qK8_1 C D P d j n p q y z z0)) (e:=.normal) (ps:=[ltI j C.length=true,j < C.length,loadL pg (cI C) (j * 1) 3=some (.v (.int .i64 (intAt (cI C) (j * 1)))),IsC (0 + 1) D.length (cI D),D.length≤1000,(!inB (cI D) D.length (intAt (cI C) (j * 1)))=true,true=true,true=true,true=true,j < C.length,true=true,loadL pg (cI C) (j * 1) 3=some (.v (.int .i64 (intAt (cI C) (j * 1)))),true=true,true=true,IsT P.length (cT P),roE n d q (cT P) P.length=0,0≤intAt (cI C) (j * 1)∧intAt (cI C) (j * 1) < ((P.length:Nat):Int),0≤p∧p≤1000,lgB (cT P) q (intAt (cI C) (j * 1)).toNat p.toNat=false,inR .i64 (((j:Nat):Int) + 1)]) [.go,.go,.go,.go,.b true,.go,.go,.go,.sym,.sym,.go,.go,.b true,.go,.b true,.go,.b true,.go,.b true,.sym,.b true,.sym,.b true,.go,.b true,.go,.b false,.go,.go,.go] (by kernel_rfl) (by kernel_rfl) ⟨hqrdg32_1,(by omega),(by rw [Nat.mul_one]; exact cI_load (by omega) 3 (u3) rfl),⟨rfl,_,rfl,rfl⟩,(by omega),(by rw [hqrdg32_2]; rfl),rfl,rfl,rfl,(by omega),rfl,(by rw [Nat.mul_one]; exact cI_load (by omega) 3 (u3) rfl),rfl,rfl,⟨P,rfl,rfl⟩,hR,(by omega),⟨by omega,by omega⟩,hqrdg32_3,(by show -9223372036854775808≤_∧_≤9223372036854775807; constructor <;> omega),trivial⟩ rfl) (eO (⟨j + 1,by omega,(up_next0 hj2 (by first | exact Or.inl hqrdg32_2 | exact Or.inr (lgB_f hqrdg32_3)))⟩) (by show C.length - (j + 1) < C.length - j; omega) rfl)
 ·skip
  have ghqrdg32_1:=lF hqrdg32_1
  obtain rfl:j=C.length:=by omega
  exact gL isX_e (gT cm (known_o4) 200 (T':=⟨[],[],1,[]⟩) (e:=.exit 2) (ps:=[ltI C.length C.length=false]) [.go,.go,.go,.go,.b false] (by kernel_rfl) (by kernel_rfl) ⟨hqrdg32_1,trivial⟩ rfl) (Hd.en_sx (rdg_33 n d q y P z C p z0 D hE hC hD hqrdg7_1 hqrdg10_1 hqrdg10_2 hqrdg10_3 hqrdg10_4 h0b hqrdg21_1 hj2  hqrdg32_1 w hs))
theorem rdg_29 (n:Nat) (d q:Int) (y:Value) (P:PL) (z:Value) (C:List Int) (p:Int) (z0:Value) (D:List Int) (hE:icE n d q (cT P) P.length (cI C) C.length=0) (hC:C.length≤1000) (hD:D.length≤1000) (hqrdg7_1:(qK8_8 C P d n q)=true) (hqrdg10_1:(ltI p 0)=false) (hqrdg10_2:(ltI p n)=true) (hqrdg10_3:(ltI d D.length)=false) (hqrdg10_4:(chB (cI D) D.length P.length)=true) (h0b:∀ j,j < (D.length)→inB (cI C) C.length (intAt (cI D) (j * 1))=true) (hqrdg21_1:(ltI D.length D.length)=false) (w:World) (hs:LN):Goes pg 76 rdgK26 ((qK8_2 C D P d n p q y z z0)) (BaseW.H w hs) (Hd.AfterN pg 76 rdgK23 w (OutH pg Try.f23 76 (.int .i64 (qK8_7 C D P d n p q)) w)):=by
 have hcl_C:=cI_len C
 have hcl_D:=cI_len D
 obtain ⟨hR,hch⟩:=icE_zero hE
 obtain ⟨hm,⟨ha1,ha2,ha3⟩,hp⟩:=roE_zero hR
 have hcl_D:=cI_len D
 have ghqrdg7_1:=eqI_true hqrdg7_1
 have ghqrdg10_1:=lF hqrdg10_1
 have ghqrdg10_2:=lT hqrdg10_2
 have ghqrdg10_3:=lF hqrdg10_3
 have ghqrdg21_1:=lF hqrdg21_1
 exact Hd.goes_loopA (id:=2) (by kernel_rfl) (by kernel_rfl) (fun j:{j:Nat // j≤C.length∧∀ k,k < j→inB (cI D) D.length (intAt (cI C) (k * 1))=true∨¬ lgP (cT P) q (intAt (cI C) (k * 1)).toNat p.toNat}=>⟨[(qK8_12 C z),(2,(.v (.int .i64 (p)))),(qK8_11 D z0),(4,(.ptr 0 0)),(10,(.v (.int .i64 j.1)))],[],1,[(qK8_6 P d n q y)]⟩) (fun j:{j:Nat // j≤C.length∧∀ k,k < j→inB (cI D) D.length (intAt (cI C) (k * 1))=true∨¬ lgP (cT P) q (intAt (cI C) (k * 1)).toNat p.toNat}=>C.length - j.1) (fun ix_ hs=>rdg_31 n d q y P z C p z0 D hE hC hD hqrdg7_1 hqrdg10_1 hqrdg10_2 hqrdg10_3 hqrdg10_4 h0b hqrdg21_1 ix_.1 ix_.2.1 ix_.2.2 w hs) ⟨0,Nat.zero_le _,(fun k hk=>by omega)⟩ hs
theorem rdg_28 (n:Nat) (d q:Int) (y:Value) (P:PL) (z:Value) (C:List Int) (p:Int) (z0:Value) (D:List Int) (hE:icE n d q (cT P) P.length (cI C) C.length=0) (hC:C.length≤1000) (hD:D.length≤1000) (hqrdg7_1:(qK8_8 C P d n q)=true) (hqrdg10_1:(ltI p 0)=false) (hqrdg10_2:(ltI p n)=true) (hqrdg10_3:(ltI d D.length)=false) (hqrdg10_4:(chB (cI D) D.length P.length)=true) (h0b:∀ j,j < (D.length)→inB (cI C) C.length (intAt (cI D) (j * 1))=true) (hqrdg21_1:(ltI D.length D.length)=false) (w:World) (hs:LN):Goes pg 76 rdgK26 ((qK8_2 C D P d n p q y z z0)) (BaseW.H w hs) (Hd.AfterN pg 76 rdgK23 w (OutH pg Try.f23 76 (.int .i64 (qK8_7 C D P d n p q)) w)):=by
 exact rdg_29 n d q y P z C p z0 D hE hC hD hqrdg7_1 hqrdg10_1 hqrdg10_2 hqrdg10_3 hqrdg10_4 h0b hqrdg21_1 w hs
theorem rdg_25 (n:Nat) (d q:Int) (y:Value) (P:PL) (z:Value) (C:List Int) (p:Int) (z0:Value) (D:List Int) (hE:icE n d q (cT P) P.length (cI C) C.length=0) (hC:C.length≤1000) (hD:D.length≤1000) (hqrdg7_1:(qK8_8 C P d n q)=true) (hqrdg10_1:(ltI p 0)=false) (hqrdg10_2:(ltI p n)=true) (hqrdg10_3:(ltI d D.length)=false) (hqrdg10_4:(chB (cI D) D.length P.length)=true) (h0b:∀ j,j < (D.length)→inB (cI C) C.length (intAt (cI D) (j * 1))=true) (hqrdg21_1:(ltI D.length D.length)=false) (w:World) (hs:LN):Goes pg 76 rdgK24 ((qK8_4 C D P d n p q y z z0)) (BaseW.H w hs) (Hd.AfterN pg 76 rdgK23 w (OutH pg Try.f23 76 (.int .i64 (qK8_7 C D P d n p q)) w)):=by
 have hcl_C:=cI_len C
 have hcl_D:=cI_len D
 obtain ⟨hR,hch⟩:=icE_zero hE
 obtain ⟨hm,⟨ha1,ha2,ha3⟩,hp⟩:=roE_zero hR
 have hcl_D:=cI_len D
 have ghqrdg7_1:=eqI_true hqrdg7_1
 have ghqrdg10_1:=lF hqrdg10_1
 have ghqrdg10_2:=lT hqrdg10_2
 have ghqrdg10_3:=lF hqrdg10_3
 have ghqrdg21_1:=lF hqrdg21_1
 refine gS (by kernel_rfl) ?_
 exact gL isN_e (gT cm (known_o4) 200 (T':=(qK8_2 C D P d n p q y z z0)) (e:=.normal) (ps:=[]) [.go] (by kernel_rfl) (by kernel_rfl) trivial rfl) (Hd.en_n (rdg_28 n d q y P z C p z0 D hE hC hD hqrdg7_1 hqrdg10_1 hqrdg10_2 hqrdg10_3 hqrdg10_4 h0b hqrdg21_1 w hs))
theorem rdg_22 (n:Nat) (d q:Int) (y:Value) (P:PL) (z:Value) (C:List Int) (p:Int) (z0:Value) (D:List Int) (hE:icE n d q (cT P) P.length (cI C) C.length=0) (hC:C.length≤1000) (hD:D.length≤1000) (hqrdg7_1:(qK8_8 C P d n q)=true) (hqrdg10_1:(ltI p 0)=false) (hqrdg10_2:(ltI p n)=true) (hqrdg10_3:(ltI d D.length)=false) (hqrdg10_4:(chB (cI D) D.length P.length)=true) (h0b:∀ j,j < (D.length)→inB (cI C) C.length (intAt (cI D) (j * 1))=true) (hqrdg21_1:(ltI D.length D.length)=false) (w:World) (hs:LN):Goes pg 76 rdgK12 ((qK8_4 C D P d n p q y z z0)) (BaseW.H w hs) (OutH pg Try.f23 76 (.int .i64 (qK8_7 C D P d n p q)) w):=by
 exact gS (by kernel_rfl) (rdg_25 n d q y P z C p z0 D hE hC hD hqrdg7_1 hqrdg10_1 hqrdg10_2 hqrdg10_3 hqrdg10_4 h0b hqrdg21_1 w hs)
theorem rdg_20 (n:Nat) (d q:Int) (y:Value) (P:PL) (z:Value) (C:List Int) (p:Int) (z0:Value) (D:List Int) (hE:icE n d q (cT P) P.length (cI C) C.length=0) (hC:C.length≤1000) (hD:D.length≤1000) (hqrdg7_1:(eqI (icE n d q (cT P) P.length (cI C) C.length) 0)=true) (hqrdg10_1:(ltI p 0)=false) (hqrdg10_2:(ltI p n)=true) (hqrdg10_3:(ltI d D.length)=false) (hqrdg10_4:(chB (cI D) D.length P.length)=true) (i:Nat) (hi1:i≤D.length) (hi2:∀ j,j < i→inB (cI C) C.length (intAt (cI D) (j * 1))=true) (w:World) (hs:LN):Goes pg 76 rdgK19 (⟨[(qK8_12 C z),(2,(.v (.int .i64 (p)))),(qK8_11 D z0),(4,(.ptr 0 0)),(9,(.v (.int .i64 i)))],[],1,[(qK8_6 P d n q y)]⟩) (BaseW.H w hs) (Hd.StepC pg 76 0 (fun i:{i:Nat // i≤D.length∧∀ j,j < i→inB (cI C) C.length (intAt (cI D) (j * 1))=true}=>⟨[(qK8_12 C z),(2,(.v (.int .i64 (p)))),(qK8_11 D z0),(4,(.ptr 0 0)),(9,(.v (.int .i64 i.1)))],[],1,[(qK8_6 P d n q y)]⟩) (fun i:{i:Nat // i≤D.length∧∀ j,j < i→inB (cI C) C.length (intAt (cI D) (j * 1))=true}=>D.length - i.1) rdgK12 w (OutH pg Try.f23 76 (.int .i64 (cdE n d q (cT P) P.length (cI C) C.length p (cI D) D.length)) w) (⟨i,hi1,hi2⟩:{i:Nat // i≤D.length∧∀ j,j < i→inB (cI C) C.length (intAt (cI D) (j * 1))=true})):=by
 have hcl_C:=cI_len C
 have hcl_D:=cI_len D
 obtain ⟨hR,hch⟩:=icE_zero hE
 obtain ⟨hm,⟨ha1,ha2,ha3⟩,hp⟩:=roE_zero hR
 have hcl_D:=cI_len D
 have ghqrdg7_1:=eqI_true hqrdg7_1
 have ghqrdg10_1:=lF hqrdg10_1
 have ghqrdg10_2:=lT hqrdg10_2
 have ghqrdg10_3:=lF hqrdg10_3
 rcases bE (ltI i D.length) with hqrdg21_1 | hqrdg21_1
 ·skip
  have ghqrdg21_1:=lT hqrdg21_1
  rcases bE (inB (cI C) C.length (intAt (cI D) (i * 1))) with hqrdg21_2 | hqrdg21_2
  ·skip
   exact gL isN_e (gT cm (known_o4) 200 (T':=⟨[(qK8_12 C z),(2,(.v (.int .i64 (p)))),(qK8_11 D z0),(4,(.ptr 0 0)),(9,(.v (.int .i64 (((i + 1):Nat):Int))))],[],1,[(qK8_6 P d n q y)]⟩) (e:=.normal) (ps:=[ltI i D.length=true,i < D.length,loadL pg (cI D) (i * 1) 3=some (.v (.int .i64 (intAt (cI D) (i * 1)))),IsC (0 + 1) C.length (cI C),C.length≤1000,(!inB (cI C) C.length (intAt (cI D) (i * 1)))=false,inR .i64 (((i:Nat):Int) + 1)]) [.go,.go,.go,.go,.b true,.go,.go,.go,.sym,.sym,.go,.b false,.go,.go,.go] (by kernel_rfl) (by kernel_rfl) ⟨hqrdg21_1,(by omega),(by rw [Nat.mul_one]; exact cI_load (by omega) 3 (u3) rfl),⟨rfl,_,rfl,rfl⟩,hC,(by rw [hqrdg21_2]; rfl),(by show -9223372036854775808≤_∧_≤9223372036854775807; constructor <;> omega),trivial⟩ rfl) (eO (⟨i + 1,by omega,(up_next0 hi2 hqrdg21_2)⟩) (by show D.length - (i + 1) < D.length - i; omega) rfl)
  ·skip
   exact gL isR_e (gT cm (known_o4) 200 (T':=qK8_9) (e:=.ret) (ps:=[ltI i D.length=true,i < D.length,loadL pg (cI D) (i * 1) 3=some (.v (.int .i64 (intAt (cI D) (i * 1)))),IsC (0 + 1) C.length (cI C),C.length≤1000,(!inB (cI C) C.length (intAt (cI D) (i * 1)))=true]) [.go,.go,.go,.go,.b true,.go,.go,.go,.sym,.sym,.go,.b true,.go] (by kernel_rfl) (by kernel_rfl) ⟨hqrdg21_1,(by omega),(by rw [Nat.mul_one]; exact cI_load (by omega) 3 (u3) rfl),⟨rfl,_,rfl,rfl⟩,hC,(by rw [hqrdg21_2]; rfl),trivial⟩ rfl) (Hd.en_so (by intro h; cases h) (by intro h; cases h) (Hd.en_eq (r:=(.int .i64 3)) (by rw [cdE_no hE (fun q=>by have q1:=q.2.2.2 i (by omega); rw [hqrdg21_2] at q1; cases q1)]) (Hd.en_ret (v:=(.v (.int .i64 (.ofNat 3)))) (by kernel_rfl) rfl)))
 ·skip
  have ghqrdg21_1:=lF hqrdg21_1
  obtain rfl:i=D.length:=by omega
  exact gL isX_e (gT cm (known_o4) 200 (T':=(qK8_4 C D P d n p q y z z0)) (e:=.exit 0) (ps:=[ltI D.length D.length=false]) [.go,.go,.go,.go,.b false] (by kernel_rfl) (by kernel_rfl) ⟨hqrdg21_1,trivial⟩ rfl) (Hd.en_sx (rdg_22 n d q y P z C p z0 D hE hC hD hqrdg7_1 hqrdg10_1 hqrdg10_2 hqrdg10_3 hqrdg10_4 hi2  hqrdg21_1 w hs))
theorem rdg_18 (n:Nat) (d q:Int) (y:Value) (P:PL) (z:Value) (C:List Int) (p:Int) (z0:Value) (D:List Int) (hE:icE n d q (cT P) P.length (cI C) C.length=0) (hC:C.length≤1000) (hD:D.length≤1000) (hqrdg7_1:(qK8_8 C P d n q)=true) (hqrdg10_1:(ltI p 0)=false) (hqrdg10_2:(ltI p n)=true) (hqrdg10_3:(ltI d D.length)=false) (hqrdg10_4:(chB (cI D) D.length P.length)=true) (w:World) (hs:LN):Goes pg 76 rdgK15 ((qK8_3 C D P d n p q y z z0)) (BaseW.H w hs) (Hd.AfterN pg 76 rdgK12 w (OutH pg Try.f23 76 (.int .i64 (qK8_7 C D P d n p q)) w)):=by
 have hcl_C:=cI_len C
 have hcl_D:=cI_len D
 obtain ⟨hR,hch⟩:=icE_zero hE
 obtain ⟨hm,⟨ha1,ha2,ha3⟩,hp⟩:=roE_zero hR
 have hcl_D:=cI_len D
 have ghqrdg7_1:=eqI_true hqrdg7_1
 have ghqrdg10_1:=lF hqrdg10_1
 have ghqrdg10_2:=lT hqrdg10_2
 have ghqrdg10_3:=lF hqrdg10_3
 exact Hd.goes_loopA (id:=0) (by kernel_rfl) (by kernel_rfl) (fun i:{i:Nat // i≤D.length∧∀ j,j < i→inB (cI C) C.length (intAt (cI D) (j * 1))=true}=>⟨[(qK8_12 C z),(2,(.v (.int .i64 (p)))),(qK8_11 D z0),(4,(.ptr 0 0)),(9,(.v (.int .i64 i.1)))],[],1,[(qK8_6 P d n q y)]⟩) (fun i:{i:Nat // i≤D.length∧∀ j,j < i→inB (cI C) C.length (intAt (cI D) (j * 1))=true}=>D.length - i.1) (fun ix_ hs=>rdg_20 n d q y P z C p z0 D hE hC hD hqrdg7_1 hqrdg10_1 hqrdg10_2 hqrdg10_3 hqrdg10_4 ix_.1 ix_.2.1 ix_.2.2 w hs) ⟨0,Nat.zero_le _,(fun j hj=>by omega)⟩ hs
theorem rdg_17 (n:Nat) (d q:Int) (y:Value) (P:PL) (z:Value) (C:List Int) (p:Int) (z0:Value) (D:List Int) (hE:icE n d q (cT P) P.length (cI C) C.length=0) (hC:C.length≤1000) (hD:D.length≤1000) (hqrdg7_1:(qK8_8 C P d n q)=true) (hqrdg10_1:(ltI p 0)=false) (hqrdg10_2:(ltI p n)=true) (hqrdg10_3:(ltI d D.length)=false) (hqrdg10_4:(chB (cI D) D.length P.length)=true) (w:World) (hs:LN):Goes pg 76 rdgK15 ((qK8_3 C D P d n p q y z z0)) (BaseW.H w hs) (Hd.AfterN pg 76 rdgK12 w (OutH pg Try.f23 76 (.int .i64 (qK8_7 C D P d n p q)) w)):=by
 exact rdg_18 n d q y P z C p z0 D hE hC hD hqrdg7_1 hqrdg10_1 hqrdg10_2 hqrdg10_3 hqrdg10_4 w hs
theorem rdg_14 (n:Nat) (d q:Int) (y:Value) (P:PL) (z:Value) (C:List Int) (p:Int) (z0:Value) (D:List Int) (hE:icE n d q (cT P) P.length (cI C) C.length=0) (hC:C.length≤1000) (hD:D.length≤1000) (hqrdg7_1:(qK8_8 C P d n q)=true) (hqrdg10_1:(ltI p 0)=false) (hqrdg10_2:(ltI p n)=true) (hqrdg10_3:(ltI d D.length)=false) (hqrdg10_4:(chB (cI D) D.length P.length)=true) (w:World) (hs:LN):Goes pg 76 rdgK13 ((qK8_4 C D P d n p q y z z0)) (BaseW.H w hs) (Hd.AfterN pg 76 rdgK12 w (OutH pg Try.f23 76 (.int .i64 (qK8_7 C D P d n p q)) w)):=by
 have hcl_C:=cI_len C
 have hcl_D:=cI_len D
 obtain ⟨hR,hch⟩:=icE_zero hE
 obtain ⟨hm,⟨ha1,ha2,ha3⟩,hp⟩:=roE_zero hR
 have hcl_D:=cI_len D
 have ghqrdg7_1:=eqI_true hqrdg7_1
 have ghqrdg10_1:=lF hqrdg10_1
 have ghqrdg10_2:=lT hqrdg10_2
 have ghqrdg10_3:=lF hqrdg10_3
 refine gS (by kernel_rfl) ?_
 exact gL isN_e (gT cm (known_o4) 200 (T':=(qK8_3 C D P d n p q y z z0)) (e:=.normal) (ps:=[]) [.go] (by kernel_rfl) (by kernel_rfl) trivial rfl) (Hd.en_n (rdg_17 n d q y P z C p z0 D hE hC hD hqrdg7_1 hqrdg10_1 hqrdg10_2 hqrdg10_3 hqrdg10_4 w hs))
theorem rdg_11 (n:Nat) (d q:Int) (y:Value) (P:PL) (z:Value) (C:List Int) (p:Int) (z0:Value) (D:List Int) (hE:icE n d q (cT P) P.length (cI C) C.length=0) (hC:C.length≤1000) (hD:D.length≤1000) (hqrdg7_1:(qK8_8 C P d n q)=true) (hqrdg10_1:(ltI p 0)=false) (hqrdg10_2:(ltI p n)=true) (hqrdg10_3:(ltI d D.length)=false) (hqrdg10_4:(chB (cI D) D.length P.length)=true) (w:World) (hs:LN):Goes pg 76 rdgK9 ((qK8_4 C D P d n p q y z z0)) (BaseW.H w hs) (OutH pg Try.f23 76 (.int .i64 (qK8_7 C D P d n p q)) w):=by
 exact gS (by kernel_rfl) (rdg_14 n d q y P z C p z0 D hE hC hD hqrdg7_1 hqrdg10_1 hqrdg10_2 hqrdg10_3 hqrdg10_4 w hs)
theorem rdg_8 (n:Nat) (d q:Int) (y:Value) (P:PL) (z:Value) (C:List Int) (p:Int) (z0:Value) (D:List Int) (hE:icE n d q (cT P) P.length (cI C) C.length=0) (hC:C.length≤1000) (hD:D.length≤1000) (hqrdg7_1:(eqI (icE n d q (cT P) P.length (cI C) C.length) 0)=true) (w:World) (hs:LN):Goes pg 76 rdgK6 ((qK8_4 C D P d n p q y z z0)) (BaseW.H w hs) (OutH pg Try.f23 76 (.int .i64 (cdE n d q (cT P) P.length (cI C) C.length p (cI D) D.length)) w):=by
 have hcl_C:=cI_len C
 have hcl_D:=cI_len D
 obtain ⟨hR,hch⟩:=icE_zero hE
 obtain ⟨hm,⟨ha1,ha2,ha3⟩,hp⟩:=roE_zero hR
 have hcl_D:=cI_len D
 have ghqrdg7_1:=eqI_true hqrdg7_1
 refine gS (by kernel_rfl) ?_
 rcases bE (ltI p 0) with hqrdg10_1 | hqrdg10_1
 ·skip
  have ghqrdg10_1:=lT hqrdg10_1
  exact gL isR_e (gT cm (known_o4) 200 (T':=qK8_9) (e:=.ret) (ps:=[ltI p 0=true,true=true,true=true,true=true,true=true,true=true,true=true,true=true,true=true,true=true,true=true,true=true,true=true,true=true,true=true,true=true]) [.go,.go,.go,.b true,.b true,.b true,.b true,.go,.go,.b true,.b true,.b true,.b true,.b true,.go,.go,.b true,.b true,.b true,.b true,.b true,.b true,.go,.b true,.go] (by kernel_rfl) (by kernel_rfl) ⟨hqrdg10_1,rfl,rfl,rfl,rfl,rfl,rfl,rfl,rfl,rfl,rfl,rfl,rfl,rfl,rfl,rfl,trivial⟩ rfl) (Hd.en_o (by intro h; cases h) (Hd.en_eq (r:=(.int .i64 3)) (by rw [cdE_no hE (fun q=>by have q1:=q.1; have q2:=q.2.1; omega)]) (Hd.en_ret (v:=(.v (.int .i64 (.ofNat 3)))) (by kernel_rfl) rfl)))
 ·skip
  have ghqrdg10_1:=lF hqrdg10_1
  rcases bE (ltI p n) with hqrdg10_2 | hqrdg10_2
  ·skip
   have ghqrdg10_2:=lT hqrdg10_2
   rcases bE (ltI d D.length) with hqrdg10_3 | hqrdg10_3
   ·skip
    have ghqrdg10_3:=lT hqrdg10_3
    exact gL isR_e (gT cm (known_o4) 200 (T':=qK8_9) (e:=.ret) (ps:=[ltI p 0=false,false=false,false=false,false=false,(!ltI p n)=false,false=false,false=false,false=false,false=false,ltI d D.length=true,true=true,true=true,true=true,true=true,true=true,true=true]) [.go,.go,.go,.b false,.go,.b false,.go,.b false,.go,.b false,.go,.go,.go,.b false,.go,.b false,.go,.b false,.go,.b false,.go,.b false,.go,.go,.go,.b true,.b true,.b true,.b true,.b true,.b true,.go,.b true,.go] (by kernel_rfl) (by kernel_rfl) ⟨hqrdg10_1,rfl,rfl,rfl,(by rw [hqrdg10_2]; rfl),rfl,rfl,rfl,rfl,hqrdg10_3,rfl,rfl,rfl,rfl,rfl,rfl,trivial⟩ rfl) (Hd.en_o (by intro h; cases h) (Hd.en_eq (r:=(.int .i64 3)) (by rw [cdE_no hE (fun q=>by have q1:=q.1; have q2:=q.2.1; omega)]) (Hd.en_ret (v:=(.v (.int .i64 (.ofNat 3)))) (by kernel_rfl) rfl)))
   ·skip
    have ghqrdg10_3:=lF hqrdg10_3
    rcases bE (chB (cI D) D.length P.length) with hqrdg10_4 | hqrdg10_4
    ·skip
     exact gL isN_e (gT cm (known_o4) 200 (T':=(qK8_4 C D P d n p q y z z0)) (e:=.normal) (ps:=[ltI p 0=false,false=false,false=false,false=false,(!ltI p n)=false,false=false,false=false,false=false,false=false,ltI d D.length=false,false=false,false=false,false=false,false=false,IsC (0 + 1) D.length (cI D),D.length≤1000,false=false,(!chB (cI D) D.length P.length)=false]) [.go,.go,.go,.b false,.go,.b false,.go,.b false,.go,.b false,.go,.go,.go,.b false,.go,.b false,.go,.b false,.go,.b false,.go,.b false,.go,.go,.go,.b false,.go,.b false,.go,.b false,.go,.b false,.go,.b false,.b false,.go,.go,.b false] (by kernel_rfl) (by kernel_rfl) ⟨hqrdg10_1,rfl,rfl,rfl,(by rw [hqrdg10_2]; rfl),rfl,rfl,rfl,rfl,hqrdg10_3,rfl,rfl,rfl,rfl,⟨rfl,_,rfl,rfl⟩,(by omega),rfl,(by rw [hqrdg10_4]; rfl),trivial⟩ rfl) (Hd.en_n (rdg_11 n d q y P z C p z0 D hE hC hD hqrdg7_1 hqrdg10_1 hqrdg10_2 hqrdg10_3 hqrdg10_4 w hs))
    ·skip
     exact gL isR_e (gT cm (known_o4) 200 (T':=qK8_9) (e:=.ret) (ps:=[ltI p 0=false,false=false,false=false,false=false,(!ltI p n)=false,false=false,false=false,false=false,false=false,ltI d D.length=false,false=false,false=false,false=false,false=false,IsC (0 + 1) D.length (cI D),D.length≤1000,false=false,(!chB (cI D) D.length P.length)=true]) [.go,.go,.go,.b false,.go,.b false,.go,.b false,.go,.b false,.go,.go,.go,.b false,.go,.b false,.go,.b false,.go,.b false,.go,.b false,.go,.go,.go,.b false,.go,.b false,.go,.b false,.go,.b false,.go,.b false,.b false,.go,.go,.b true,.go] (by kernel_rfl) (by kernel_rfl) ⟨hqrdg10_1,rfl,rfl,rfl,(by rw [hqrdg10_2]; rfl),rfl,rfl,rfl,rfl,hqrdg10_3,rfl,rfl,rfl,rfl,⟨rfl,_,rfl,rfl⟩,(by omega),rfl,(by rw [hqrdg10_4]; rfl),trivial⟩ rfl) (Hd.en_o (by intro h; cases h) (Hd.en_eq (r:=(.int .i64 3)) (by rw [cdE_no hE (fun q=>by have q1:=dd_ch q.2 hch; rw [hqrdg10_4] at q1; cases q1)]) (Hd.en_ret (v:=(.v (.int .i64 (.ofNat 3)))) (by kernel_rfl) rfl)))
  ·skip
   have ghqrdg10_2:=lF hqrdg10_2
   exact gL isR_e (gT cm (known_o4) 200 (T':=qK8_9) (e:=.ret) (ps:=[ltI p 0=false,false=false,false=false,false=false,(!ltI p n)=true,true=true,true=true,true=true,true=true,true=true,true=true,true=true,true=true,true=true,true=true,true=true]) [.go,.go,.go,.b false,.go,.b false,.go,.b false,.go,.b false,.go,.go,.go,.b true,.b true,.b true,.b true,.b true,.go,.go,.b true,.b true,.b true,.b true,.b true,.b true,.go,.b true,.go] (by kernel_rfl) (by kernel_rfl) ⟨hqrdg10_1,rfl,rfl,rfl,(by rw [hqrdg10_2]; rfl),rfl,rfl,rfl,rfl,rfl,rfl,rfl,rfl,rfl,rfl,rfl,trivial⟩ rfl) (Hd.en_o (by intro h; cases h) (Hd.en_eq (r:=(.int .i64 3)) (by rw [cdE_no hE (fun q=>by have q1:=q.1; have q2:=q.2.1; omega)]) (Hd.en_ret (v:=(.v (.int .i64 (.ofNat 3)))) (by kernel_rfl) rfl)))
theorem rdg_5 (n:Nat) (d q:Int) (y:Value) (P:PL) (z:Value) (C:List Int) (p:Int) (z0:Value) (D:List Int) (hE:icE n d q (cT P) P.length (cI C) C.length=0) (hC:C.length≤1000) (hD:D.length≤1000) (w:World) (hs:LN):Goes pg 76 rdgK3 ((qK8_4 C D P d n p q y z z0)) (BaseW.H w hs) (OutH pg Try.f23 76 (.int .i64 (cdE n d q (cT P) P.length (cI C) C.length p (cI D) D.length)) w):=by
 have hcl_C:=cI_len C
 have hcl_D:=cI_len D
 obtain ⟨hR,hch⟩:=icE_zero hE
 obtain ⟨hm,⟨ha1,ha2,ha3⟩,hp⟩:=roE_zero hR
 have hcl_D:=cI_len D
 refine gS (by kernel_rfl) ?_
 rcases bE (eqI (icE n d q (cT P) P.length (cI C) C.length) 0) with hqrdg7_1 | hqrdg7_1
 ·skip
  have ghqrdg7_1:=eqI_true hqrdg7_1
  exact gL isN_e (gT cm (known_o4) 200 (T':=(qK8_4 C D P d n p q y z z0)) (e:=.normal) (ps:=[IsT P.length (cT P),IsC 1 C.length (cI C),C.length≤1000,(!eqI (icE n d q (cT P) P.length (cI C) C.length) 0)=false]) [.go,.go,.go,.b false] (by kernel_rfl) (by kernel_rfl) ⟨⟨P,rfl,rfl⟩,⟨rfl,_,rfl,rfl⟩,hC,(by rw [hqrdg7_1]; rfl),trivial⟩ rfl) (Hd.en_n (rdg_8 n d q y P z C p z0 D hE hC hD hqrdg7_1 w hs))
 ·skip
  have ghqrdg7_1:=eqI_false hqrdg7_1
  exact absurd hE (eqI_false hqrdg7_1)
theorem rdg_2 (n:Nat) (d q:Int) (y:Value) (P:PL) (z:Value) (C:List Int) (p:Int) (z0:Value) (D:List Int) (hE:icE n d q (cT P) P.length (cI C) C.length=0) (hC:C.length≤1000) (hD:D.length≤1000) (w:World) (hs:LN):Goes pg 76 rdgK1 (⟨[(0,(.agg [.v (.int .i64 n),.v (.int .i64 d),.v (.int .i64 q),.xl y P.length 3 (cT P)])),(1,(.xl z C.length 1 (cI C))),(2,(.v (.int .i64 p))),(3,(.xl z0 D.length 1 (cI D)))],[],0,[]⟩) (BaseW.H w hs) (OutH pg Try.f23 76 (.int .i64 (qK8_7 C D P d n p q)) w):=by
 have hcl_C:=cI_len C
 have hcl_D:=cI_len D
 obtain ⟨hR,hch⟩:=icE_zero hE
 obtain ⟨hm,⟨ha1,ha2,ha3⟩,hp⟩:=roE_zero hR
 have hcl_D:=cI_len D
 refine gS (by kernel_rfl) ?_
 exact gL isN_e (gT cm (known_o4) 200 (T':=(qK8_4 C D P d n p q y z z0)) (e:=.normal) (ps:=[]) [.go,.go] (by kernel_rfl) (by kernel_rfl) trivial rfl) (Hd.en_n (rdg_5 n d q y P z C p z0 D hE hC hD w hs))
theorem rdg (n:Nat) (d q:Int) (y:Value) (P:PL) (z:Value) (C:List Int) (p:Int) (z0:Value) (D:List Int) (hE:icE n d q (cT P) P.length (cI C) C.length=0) (hC:C.length≤1000) (hD:D.length≤1000):GivesA pg 23 [(.agg [.v (.int .i64 n),.v (.int .i64 d),.v (.int .i64 q),.xl y P.length 3 (cT P)]),(.xl z C.length 1 (cI C)),(.v (.int .i64 p)),(.xl z0 D.length 1 (cI D))] (.int .i64 (qK8_7 C D P d n p q)) :=
 givesA_partsH 76 Try.func23 (by kernel_rfl) (by kernel_rfl) (by kernel_rfl) (fun w=>goes_less (by kernel_rfl) (by kernel_rfl) (by kernel_rfl) (by kernel_rfl) (rdg_2 n d q y P z C p z0 D hE hC hD w []))
end
end Go.Proofs.Ytnphldmnakbknaa
