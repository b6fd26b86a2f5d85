import Derived.Test.YtnphldmnakbknaaO5
set_option maxHeartbeats 4000000
set_option linter.all false
/- The law StreetEither. -/
namespace Go.Proofs.Ytnphldmnakbknaa
open Go Ev
noncomputable section
theorem iRO6 {a:Int} (h : -9223372036854775808≤a) (k:a≤9223372036854775807):inR .i64 a:=⟨h,k⟩
section
variable {n : Nat} {d q b e1 e2 p : Int} {P : PL}
section
variable (P : PL) (b d e1 e2 : Int) (i k n : Nat) (nI p q : Int) (y : Value)
abbrev qO6_37:Nat×Ev.AV:=(9,(.slu 3 0 ((flt (mkB b) P.length).length) 0))
abbrev qO6_41:=(cI (flt (mkB b) P.length))
abbrev qO6_29:Nat×Ev.AV:=(10,(.v (.int .i64 (((drV (cT P) q d (List.take ((flt (mkB b) P.length).length * (0 + 1)) (List.drop 0 (qO6_41 P b))) (flt (mkB b) P.length).length n:Nat):Int)))))
abbrev qO6_30:Nat×Ev.AV:=(11,(.slu 4 0 ((drL (cT P) q d (List.take ((flt (mkB b) P.length).length * (0 + 1)) (List.drop 0 (qO6_41 P b))) (flt (mkB b) P.length).length n).length) 0))
abbrev qO6_28:Nat×Ev.AV:=(14,(.v (.int .i64 (if hoB (cT P) q d (List.take ((flt (mkB b) P.length).length * (0 + 1)) (List.drop 0 (qO6_41 P b))) (flt (mkB b) P.length).length n=true then 0 else 18))))
abbrev qO6_34:Ev.AB:=(.cells [(.v (.int .i64 n)),(.v (.int .i64 (d))),(.v (.int .i64 (q))),(.xl (y) (P.length) 3 (cT P))] 24)
abbrev qO6_33:Nat×Ev.AB:=(0,(qO6_34 P d n q y))
abbrev qO6_36:Ev.AB:=(.cells [(.v (.int .u8 (e1))),(.v (.int .u8 (e2)))] 55)
abbrev qO6_35:Nat×Ev.AB:=(1,(qO6_36 e1 e2))
abbrev qO6_39:Ev.AB:=(.row (qO6_41 P b) 3 1)
abbrev qO6_38:Nat×Ev.AB:=(3,(qO6_39 P b))
abbrev qO6_32:=(cI (drL (cT P) q d (List.take ((flt (mkB b) P.length).length * (0 + 1)) (List.drop 0 (qO6_41 P b))) (flt (mkB b) P.length).length n))
abbrev qO6_31:Nat×Ev.AB:=(4,(.row (qO6_32 P b d n q) 3 1))
abbrev qO6_1:Ev.Lit:=⟨[(3,(.v (.int .u8 (p)))),(4,(.ptr 0 0)),(6,(.ptr 1 0)),(qO6_37 P b),(qO6_29 P b d n q),(qO6_30 P b d n q),(12,(.v (.int .i64 (.ofNat 0)))),(qO6_28 P b d n q)],[],5,[(qO6_33 P d n q y),(qO6_35 e1 e2),(qO6_38 P b),(qO6_31 P b d n q)]⟩
abbrev qO6_2:Ev.Lit:=⟨[(3,(.v (.int .u8 (p)))),(4,(.ptr 0 0)),(6,(.ptr 1 0)),(qO6_37 P b),(qO6_29 P b d n q),(qO6_30 P b d n q),(12,(.v (.int .i64 (.ofNat 0))))],[],5,[(qO6_33 P d n q y),(qO6_35 e1 e2),(qO6_38 P b),(qO6_31 P b d n q)]⟩
abbrev qO6_3:Ev.Lit:=⟨[(3,(.v (.int .u8 (p)))),(4,(.ptr 0 0)),(6,(.ptr 1 0)),(qO6_37 P b),(qO6_29 P b d n q),(11,(.v (Value.slice none 0 0))),(12,(.v (.int .i64 (.ofNat 0)))),(qO6_28 P b d n q)],[],4,[(qO6_33 P d n q y),(qO6_35 e1 e2),(qO6_38 P b)]⟩
abbrev qO6_4:Ev.Lit:=⟨[(3,(.v (.int .u8 (p)))),(4,(.ptr 0 0)),(6,(.ptr 1 0)),(qO6_37 P b),(10,(.v (.int .i64 (.ofNat 0)))),(11,(.v (Value.slice none 0 0))),(12,(.v (.int .i64 (.ofNat 5)))),(qO6_28 P b d n q)],[],4,[(qO6_33 P d n q y),(qO6_35 e1 e2),(qO6_38 P b)]⟩
abbrev qO6_25:Nat×Ev.AB:=(4,(.row (cI (ouL (flt (mkB b) P.length) d ((IntKind.i64.wrap e1).tmod (((flt (mkB b) P.length).length:Nat):Int)) ((IntKind.i64.wrap e2).tmod (((flt (mkB b) P.length).length:Nat):Int)) (i + 1))) 3 1))
abbrev qO6_5:Ev.Lit:=⟨[(3,(.v (.int .u8 (p)))),(4,(.ptr 0 0)),(6,(.ptr 1 0)),(qO6_37 P b),(15,(.slu 4 0 (k + 1 + 1) 0)),(16,(.v (.int .i64 (((i + 1):Nat):Int))))],[],5,[(qO6_33 P d n q y),(qO6_35 e1 e2),(qO6_38 P b),(qO6_25 P b d e1 e2 i)]⟩
abbrev qO6_6:Ev.Lit:=⟨[(3,(.v (.int .u8 (p)))),(4,(.ptr 0 0)),(6,(.ptr 1 0)),(qO6_37 P b),(15,(.slu 4 0 (k + 1) 0)),(16,(.v (.int .i64 (((i + 1):Nat):Int))))],[],5,[(qO6_33 P d n q y),(qO6_35 e1 e2),(qO6_38 P b),(qO6_25 P b d e1 e2 i)]⟩
abbrev qO6_7:Ev.Lit:=⟨[(3,(.v (.int .u8 (p)))),(4,(.ptr 0 0)),(6,(.ptr 1 0)),(qO6_37 P b),(15,(.slu 4 0 (0 + 1) 0)),(16,(.v (.int .i64 (((i + 1):Nat):Int))))],[],5,[(qO6_33 P d n q y),(qO6_35 e1 e2),(qO6_38 P b),(qO6_25 P b d e1 e2 i)]⟩
abbrev qO6_8:Ev.Lit:=⟨[(3,(.v (.int .u8 (p)))),(4,(.ptr 0 0)),(6,(.ptr 1 0)),(qO6_37 P b),(qO6_29 P b d n q),(11,(.v (Value.slice none 0 0))),(12,(.v (.int .i64 (.ofNat 0))))],[],4,[(qO6_33 P d n q y),(qO6_35 e1 e2),(qO6_38 P b)]⟩
abbrev qO6_9:Ev.Lit:=⟨[(3,(.v (.int .u8 (p)))),(4,(.ptr 0 0)),(6,(.ptr 1 0)),(qO6_37 P b),(12,(.v (.int .i64 (.ofNat 5)))),(qO6_28 P b d n q)],[],4,[(qO6_33 P d n q y),(qO6_35 e1 e2),(qO6_38 P b)]⟩
abbrev qO6_10:Ev.Lit:=⟨[(3,(.v (.int .u8 (p)))),(4,(.ptr 0 0)),(qO6_37 P b),(15,(.slu 4 0 (k + 1) 0))],[],5,[(qO6_33 P d n q y),(qO6_38 P b),(4,(.row (cI (ouL (flt (mkB b) P.length) d ((IntKind.i64.wrap e1).tmod (((flt (mkB b) P.length).length:Nat):Int)) ((IntKind.i64.wrap e2).tmod (((flt (mkB b) P.length).length:Nat):Int)) ((flt (mkB b) P.length).length))) 3 1))]⟩
abbrev qO6_11:Ev.Lit:=⟨[(3,(.v (.int .u8 (p)))),(4,(.ptr 0 0)),(6,(.ptr 1 0)),(9,(.v (Value.slice none 0 0))),(10,(.v (.int .i64 (.ofNat 0)))),(11,(.v (Value.slice none 0 0))),(12,(.v (.int .i64 (.ofNat 0)))),(14,(.v (.int .i64 (if hoB (cT P) q d [] 0 n=true then 0 else 18))))],[],3,[(qO6_33 P d n q y),(qO6_35 e1 e2)]⟩
abbrev qO6_12:Ev.Lit:=⟨[(3,(.v (.int .u8 (p)))),(4,(.ptr 0 0)),(6,(.ptr 1 0)),(qO6_37 P b),(10,(.v (.int .i64 (.ofNat 0)))),(11,(.v (Value.slice none 0 0))),(12,(.v (.int .i64 (.ofNat 5))))],[],4,[(qO6_33 P d n q y),(qO6_35 e1 e2),(qO6_38 P b)]⟩
abbrev qO6_40:Nat×Ev.AV:=(15,(.v (Value.slice none 0 0)))
abbrev qO6_13:Ev.Lit:=⟨[(3,(.v (.int .u8 (p)))),(4,(.ptr 0 0)),(6,(.ptr 1 0)),(qO6_37 P b),qO6_40,(16,(.v (.int .i64 (((i + 1):Nat):Int))))],[],4,[(qO6_33 P d n q y),(qO6_35 e1 e2),(qO6_38 P b)]⟩
abbrev qO6_14:Ev.Lit:=⟨[(3,(.v (.int .u8 (p)))),(4,(.ptr 0 0)),(6,(.ptr 1 0)),(qO6_37 P b),qO6_40,(16,(.v (.int .i64 (.ofNat 0))))],[],4,[(qO6_33 P d n q y),(qO6_35 e1 e2),(qO6_38 P b)]⟩
abbrev qO6_15:Ev.Lit:=⟨[(3,(.v (.int .u8 (p)))),(4,(.ptr 0 0)),(6,(.ptr 1 0)),(9,(.v (Value.slice none 0 0))),(10,(.v (.int .i64 (.ofNat 0)))),(11,(.v (Value.slice none 0 0))),(12,(.v (.int .i64 (.ofNat 0))))],[],3,[(qO6_33 P d n q y),(qO6_35 e1 e2)]⟩
abbrev qO6_16:Ev.Lit:=⟨[(3,(.v (.int .u8 (p)))),(4,(.ptr 0 0)),(6,(.ptr 1 0)),(qO6_37 P b),qO6_40],[],4,[(qO6_33 P d n q y),(qO6_35 e1 e2),(qO6_38 P b)]⟩
abbrev qO6_17:Ev.Lit:=⟨[(3,(.v (.int .u8 (p)))),(4,(.ptr 0 0)),(6,(.ptr 1 0)),(qO6_37 P b)],[],4,[(qO6_33 P d n q y),(qO6_35 e1 e2),(qO6_38 P b)]⟩
abbrev qO6_18:Ev.Lit:=⟨[(3,(.v (.int .u8 (p)))),(4,(.ptr 0 0)),(qO6_37 P b),qO6_40],[],4,[(qO6_33 P d n q y),(qO6_38 P b)]⟩
abbrev qO6_19:Ev.Lit:=⟨[(3,(.v (.int .u8 (p)))),(4,(.ptr 0 0)),(6,(.ptr 1 0)),(9,(.v (Value.slice none 0 0)))],[],3,[(qO6_33 P d n q y),(qO6_35 e1 e2)]⟩
abbrev qO6_20:Ev.Lit:=⟨[(1,(.v (.int .u32 (b)))),(3,(.v (.int .u8 (p)))),(4,(.ptr 0 0)),(6,(.ptr 1 0))],[],3,[(qO6_33 P d n q y),(qO6_35 e1 e2)]⟩
abbrev qO6_21:Ev.Lit:=⟨[(1,(.v (.int .u32 (b)))),(3,(.v (.int .u8 (p)))),(4,(.ptr 0 0)),(6,(.ptr 1 0))],[],2,[(qO6_33 P d n q y),(qO6_35 e1 e2)]⟩
abbrev qO6_22:Ev.Lit:=⟨[(1,(.v (.int .u32 (b)))),(3,(.v (.int .u8 (p)))),(4,(.ptr 0 0)),(6,(.ptr 1 0))],[],2,[(0,(.cells [(.v (.int .i64 (nI))),(.v (.int .i64 (d))),(.v (.int .i64 (q))),(.xl (y) (P.length) 3 (cT P))] 24)),(qO6_35 e1 e2)]⟩
abbrev qO6_23:Ev.AB:=(.row ((cI (ouL (flt (mkB b) P.length) d ((IntKind.i64.wrap e1).tmod (((flt (mkB b) P.length).length:Nat):Int)) ((IntKind.i64.wrap e2).tmod (((flt (mkB b) P.length).length:Nat):Int)) i)) ++ [(.v (.int .i64 (intAt (qO6_41 P b) (0 + i * 1))))]) 3 1)
abbrev qO6_24:Ev.Lit:=⟨[(0,(.agg [.v (.int .i64 n),.v (.int .i64 d),.v (.int .i64 q),.xl y P.length 3 (cT P)])),(1,(.v (.int .u32 b))),(2,(.agg [.v (.int .u8 e1),.v (.int .u8 e2)])),(3,(.v (.int .u8 p)))],[],0,[]⟩
abbrev qO6_26:Ev.Lit:=⟨[(0,(.agg [.v (.int .i64 nI),.v (.int .i64 d),.v (.int .i64 q),.xl y P.length 3 (cT P)])),(1,(.v (.int .u32 b))),(2,(.agg [.v (.int .u8 e1),.v (.int .u8 e2)])),(3,(.v (.int .u8 p)))],[],0,[]⟩
abbrev qO6_27:Ev.AB:=(.row (cI (ouL (flt (mkB b) P.length) d ((IntKind.i64.wrap e1).tmod (((flt (mkB b) P.length).length:Nat):Int)) ((IntKind.i64.wrap e2).tmod (((flt (mkB b) P.length).length:Nat):Int)) i)) 3 1)
end
theorem flt_24 (hm:P.length≤24):(flt (mkB b) P.length).length≤24:=by have:=flt_le (mkB b) P.length; omega
theorem ho_v5 (hv:(drV (cT P) q d (cI (flt (mkB b) P.length)) (flt (mkB b) P.length).length n)=n):hoB (cT P) q d (cI (flt (mkB b) P.length)) (flt (mkB b) P.length).length n=true:=by unfold hoB; rw [hv]; exact eqI_self _
theorem ho_vn (hv:(drV (cT P) q d (cI (flt (mkB b) P.length)) (flt (mkB b) P.length).length n) < n):hoB (cT P) q d (cI (flt (mkB b) P.length)) (flt (mkB b) P.length).length n=false:=by
 cases e:hoB (cT P) q d (cI (flt (mkB b) P.length)) (flt (mkB b) P.length).length n with
 | false=>rfl
 | true=>exact absurd (eqI_true (show eqI (((drV (cT P) q d (cI (flt (mkB b) P.length)) (flt (mkB b) P.length).length n):Nat):Int) n=true from e)) (by omega)
theorem icE_f0 (hI:icE n d q (cT P) P.length (cI (flt (mkB b) P.length)) (flt (mkB b) P.length).length=0) (h0:(flt (mkB b) P.length).length=0):icE n d q (cT P) P.length [] 0=0:=by
 rw [List.eq_nil_of_length_eq_zero h0] at hI
 exact hI
theorem h14_5 (hI:icE n d q (cT P) P.length (cI (flt (mkB b) P.length)) (flt (mkB b) P.length).length=0) (hh:hoB (cT P) q d (cI (flt (mkB b) P.length)) (flt (mkB b) P.length).length n=true) (hd:0≤d) (z:Int) (hz:0≤z∧z < ((n:Nat):Int)):cdE n d q (cT P) P.length (cI (flt (mkB b) P.length)) (flt (mkB b) P.length).length z (cI (ouL (flt (mkB b) P.length) d ((IntKind.i64.wrap e1).tmod (((flt (mkB b) P.length).length:Nat):Int)) ((IntKind.i64.wrap e2).tmod (((flt (mkB b) P.length).length:Nat):Int)) (flt (mkB b) P.length).length)) (ouL (flt (mkB b) P.length) d ((IntKind.i64.wrap e1).tmod (((flt (mkB b) P.length).length:Nat):Int)) ((IntKind.i64.wrap e2).tmod (((flt (mkB b) P.length).length:Nat):Int)) (flt (mkB b) P.length).length).length=14:=either_14 hI (ho_true hh) hz (ou_dd hd (flt_pair _))
theorem hz_5 (ht:0≤p∧p≤255) (hn:1≤n):0≤(IntKind.i64.wrap p).tmod n∧(IntKind.i64.wrap p).tmod n < ((n:Nat):Int):=by
 rw [show IntKind.i64.wrap p=p from IntWalk.i64_in p ⟨by omega,by omega⟩]
 exact ⟨Int.tmod_nonneg _ (by omega),Int.tmod_lt_of_pos _ (by omega)⟩
end
def sEPK1:Code:=bodyC Try.f8
def sEPK3:Code:=tlC sEPK1
theorem sEP_5 (nI d q:Int) (y:Value) (P:PL) (b e1 e2 p:Int) (hw:Known pg (clsO wkO)) (hb:0≤b∧b≤4294967295) (hu:0≤e1∧e1≤255) (hv0:0≤e2∧e2≤255) (ht:0≤p∧p≤255) (h30:30 < P.length) (w:World) (hs:LN):Goes pg 129 sEPK3 ((qO6_22 P b d e1 e2 nI p q y)) (BaseW.H w hs) (OutH pg Try.f8 129 (.bool true) w):=by
 refine gS (by kernel_rfl) ?_
 rcases bE (ltI 30 P.length) with hqsEP7_1 | hqsEP7_1
 ·skip
  have ghqsEP7_1:=lT hqsEP7_1
  exact gL isR_e (gT cm (known_l5a hw) 200 (T':=⟨[(8,(.v (.bool .true)))],[],3,[]⟩) (e:=.ret) (ps:=[IsT P.length (cT P),(!ltI 30 P.length)=false,false=false,false=false,(!false)=true]) [.go,.go,.go,.go,.go,.go,.b false,.b false,.b false,.go,.go,.go,.b true,.go] (by kernel_rfl) (by kernel_rfl) ⟨⟨P,rfl,rfl⟩,(by rw [hqsEP7_1]; rfl),rfl,rfl,rfl,trivial⟩ rfl) (Hd.en_o (by intro h; cases h) (Hd.en_eq (r:=(.bool .true)) (by rfl) (Hd.en_ret (v:=(.v (.bool .true))) (by kernel_rfl) rfl)))
 ·skip
  have ghqsEP7_1:=lF hqsEP7_1
  rcases bE (eqI (roE nI d q (cT P) P.length) 0) with hqsEP7_2 | hqsEP7_2
  ·skip
   have ghqsEP7_2:=eqI_true hqsEP7_2
   exfalso
   have h9:=lF hqsEP7_1
   omega
  ·skip
   have ghqsEP7_2:=eqI_false hqsEP7_2
   exfalso
   have h9:=lF hqsEP7_1
   omega
theorem sEP_2 (nI d q:Int) (y:Value) (P:PL) (b e1 e2 p:Int) (hw:Known pg (clsO wkO)) (hb:0≤b∧b≤4294967295) (hu:0≤e1∧e1≤255) (hv0:0≤e2∧e2≤255) (ht:0≤p∧p≤255) (h30:30 < P.length) (w:World) (hs:LN):Goes pg 129 sEPK1 ((qO6_26 P b d e1 e2 nI p q y)) (BaseW.H w hs) (OutH pg Try.f8 129 (.bool true) w):=by
 refine gS (by kernel_rfl) ?_
 exact gL isN_e (gT cm (known_l5a hw) 200 (T':=(qO6_22 P b d e1 e2 nI p q y)) (e:=.normal) (ps:=[]) [.go,.go,.go] (by kernel_rfl) (by kernel_rfl) trivial rfl) (Hd.en_n (sEP_5 nI d q y P b e1 e2 p hw hb hu hv0 ht h30 w hs))
theorem sei_P (nI d q:Int) (y:Value) (P:PL) (b e1 e2 p:Int) (hw:Known pg (clsO wkO)) (hb:0≤b∧b≤4294967295) (hu:0≤e1∧e1≤255) (hv0:0≤e2∧e2≤255) (ht:0≤p∧p≤255) (h30:30 < P.length):GivesA pg 8 [(.agg [.v (.int .i64 nI),.v (.int .i64 d),.v (.int .i64 q),.xl y P.length 3 (cT P)]),(.v (.int .u32 b)),(.agg [.v (.int .u8 e1),.v (.int .u8 e2)]),(.v (.int .u8 p))] (.bool true) :=
 givesA_partsH 129 Try.func8 (by kernel_rfl) (by kernel_rfl) (by kernel_rfl) (fun w=>goes_less (by kernel_rfl) (by kernel_rfl) (by kernel_rfl) (by kernel_rfl) (sEP_2 nI d q y P b e1 e2 p hw hb hu hv0 ht h30 w []))
def sErK1:Code:=bodyC Try.f8
def sErK3:Code:=tlC sErK1
theorem sEr_5 (nI d q:Int) (y:Value) (P:PL) (b e1 e2 p:Int) (hw:Known pg (clsO wkO)) (hb:0≤b∧b≤4294967295) (hu:0≤e1∧e1≤255) (hv0:0≤e2∧e2≤255) (ht:0≤p∧p≤255) (h30:P.length≤30) (hE:¬ roE nI d q (cT P) P.length=0) (w:World) (hs:LN):Goes pg 129 sErK3 ((qO6_22 P b d e1 e2 nI p q y)) (BaseW.H w hs) (OutH pg Try.f8 129 (.bool true) w):=by
 refine gS (by kernel_rfl) ?_
 rcases bE (ltI 30 P.length) with hqsEr7_1 | hqsEr7_1
 ·skip
  have ghqsEr7_1:=lT hqsEr7_1
  exfalso
  have h9:=lT hqsEr7_1
  omega
 ·skip
  have ghqsEr7_1:=lF hqsEr7_1
  rcases bE (eqI (roE nI d q (cT P) P.length) 0) with hqsEr7_2 | hqsEr7_2
  ·skip
   have ghqsEr7_2:=eqI_true hqsEr7_2
   exact absurd (eqI_true hqsEr7_2) hE
  ·skip
   have ghqsEr7_2:=eqI_false hqsEr7_2
   exact gL isR_e (gT cm (known_l5a hw) 200 (T':=⟨[(8,(.v (.bool .true)))],[],3,[]⟩) (e:=.ret) (ps:=[IsT P.length (cT P),(!ltI 30 P.length)=true,true=true,IsT P.length (cT P),true=true,(!eqI (roE nI d q (cT P) P.length) 0)=true]) [.go,.go,.go,.go,.go,.go,.b true,.go,.b true,.b true,.go,.go,.go,.go,.b true,.go] (by kernel_rfl) (by kernel_rfl) ⟨⟨P,rfl,rfl⟩,(by rw [hqsEr7_1]; rfl),rfl,⟨P,rfl,rfl⟩,rfl,(by rw [hqsEr7_2]; rfl),trivial⟩ rfl) (Hd.en_o (by intro h; cases h) (Hd.en_eq (r:=(.bool .true)) (by rfl) (Hd.en_ret (v:=(.v (.bool .true))) (by kernel_rfl) rfl)))
theorem sEr_2 (nI d q:Int) (y:Value) (P:PL) (b e1 e2 p:Int) (hw:Known pg (clsO wkO)) (hb:0≤b∧b≤4294967295) (hu:0≤e1∧e1≤255) (hv0:0≤e2∧e2≤255) (ht:0≤p∧p≤255) (h30:P.length≤30) (hE:¬ roE nI d q (cT P) P.length=0) (w:World) (hs:LN):Goes pg 129 sErK1 ((qO6_26 P b d e1 e2 nI p q y)) (BaseW.H w hs) (OutH pg Try.f8 129 (.bool true) w):=by
 refine gS (by kernel_rfl) ?_
 exact gL isN_e (gT cm (known_l5a hw) 200 (T':=(qO6_22 P b d e1 e2 nI p q y)) (e:=.normal) (ps:=[]) [.go,.go,.go] (by kernel_rfl) (by kernel_rfl) trivial rfl) (Hd.en_n (sEr_5 nI d q y P b e1 e2 p hw hb hu hv0 ht h30 hE w hs))
theorem sei_r (nI d q:Int) (y:Value) (P:PL) (b e1 e2 p:Int) (hw:Known pg (clsO wkO)) (hb:0≤b∧b≤4294967295) (hu:0≤e1∧e1≤255) (hv0:0≤e2∧e2≤255) (ht:0≤p∧p≤255) (h30:P.length≤30) (hE:¬ roE nI d q (cT P) P.length=0):GivesA pg 8 [(.agg [.v (.int .i64 nI),.v (.int .i64 d),.v (.int .i64 q),.xl y P.length 3 (cT P)]),(.v (.int .u32 b)),(.agg [.v (.int .u8 e1),.v (.int .u8 e2)]),(.v (.int .u8 p))] (.bool true) :=
 givesA_partsH 129 Try.func8 (by kernel_rfl) (by kernel_rfl) (by kernel_rfl) (fun w=>goes_less (by kernel_rfl) (by kernel_rfl) (by kernel_rfl) (by kernel_rfl) (sEr_2 nI d q y P b e1 e2 p hw hb hu hv0 ht h30 hE w []))
def sEaK1:Code:=bodyC Try.f8
def sEaK3:Code:=tlC sEaK1
def sEaK6:Code:=tlC sEaK3
def sEaK9:Code:=tlC sEaK6
def sEaK12:Code:=tlC sEaK9
def sEaK15:Code:=tlC sEaK12
theorem sEa_17 (n:Nat) (d q:Int) (y:Value) (P:PL) (b e1 e2 p:Int) (hw:Known pg (clsO wkO)) (hb:0≤b∧b≤4294967295) (hu:0≤e1∧e1≤255) (hv0:0≤e2∧e2≤255) (ht:0≤p∧p≤255) (hE:roE n d q (cT P) P.length=0) (h0:(flt (mkB b) P.length).length=0) (hqsEa7_1:(ltI 30 P.length)=false) (hqsEa7_2:(eqI (roE n d q (cT P) P.length) 0)=true) (w:World) (hs:LN):Goes pg 129 sEaK15 ((qO6_11 P d e1 e2 n p q y)) (BaseW.H w hs) (OutH pg Try.f8 129 (.bool true) w):=by
 have hI:=icE_flt (st:=mkB b) hE
 obtain ⟨hm,⟨ha1,ha2,ha3⟩,hp0⟩:=roE_zero hE
 have hn:n≤1000:=by omega
 have hfl:=flt_24 (b:=b) hm
 have hho:hoB (cT P) q d [] 0 n=false:=ho_zero (by omega) (by omega)
 have hI0:=icE_f0 hI h0
 have ghqsEa7_1:=lF hqsEa7_1
 have ghqsEa7_2:=eqI_true hqsEa7_2
 refine gS (by kernel_rfl) ?_
 rcases bE (eqI (if hoB (cT P) q d [] 0 n=true then 0 else 18) 18) with hqsEa19_1 | hqsEa19_1
 ·skip
  have ghqsEa19_1:=eqI_true hqsEa19_1
  rcases bE (eqI (cdE n d q (cT P) P.length [] 0 ((0:Int)) [] 0) 0) with hqsEa19_2 | hqsEa19_2
  ·skip
   have ghqsEa19_2:=eqI_true hqsEa19_2
   rcases bE (hoB (cT P) q d [] 0 n) with hqsEa19_3 | hqsEa19_3
   ·skip
    exact absurd (show hoB (cT P) q d [] 0 n=false from by exact hho) (by rw [hqsEa19_3]; decide)
   ·skip
    exact gL isR_e (gT cm (known_l5a hw) 200 (T':=⟨[(8,(.v (.bool .true)))],[],3,[]⟩) (e:=.ret) (ps:=[eqI ((0:Int)) 0=true,eqI (if hoB (cT P) q d [] 0 n=true then 0 else 18) 18=true,true=true,true=true,true=true,true=true,IsT P.length (cT P),IsC (0 + 1) 0 [],IsC (0 + 1) 0 [],((0:Nat)≤1000),((0:Nat)≤1000),true=true,eqI (cdE n d q (cT P) P.length [] 0 ((0:Int)) [] 0) 0=true,true=true,true=true,true=true,true=true,IsT P.length (cT P),IsC (0 + 1) 0 [],IsC (0 + 1) 0 [],((0:Nat)≤1000),((0:Nat)≤1000),true=true,eqI (cdE n d q (cT P) P.length [] 0 ((0:Int)) [] 0) 0=true,true=true,true=true,IsT P.length (cT P),IsC (0 + 1) 0 [],icE n d q (cT P) P.length [] 0=0,((0:Nat)≤1000),true=true,(!hoB (cT P) q d [] 0 n)=true]) [.go,.go,.b true,.go,.go,.go,.b true,.go,.b true,.go,.b true,.go,.b true,.go,.b true,.b true,.go,.go,.go,.b true,.go,.b true,.go,.b true,.go,.b true,.go,.b true,.b true,.go,.go,.go,.b true,.go,.b true,.go,.b true,.b true,.go,.go,.go,.b true,.go,.go] (by kernel_rfl) (by kernel_rfl) ⟨rfl,hqsEa19_1,rfl,rfl,rfl,rfl,⟨P,rfl,rfl⟩,⟨rfl,[],rfl,rfl⟩,⟨rfl,[],rfl,rfl⟩,(by decide),(by decide),rfl,hqsEa19_2,rfl,rfl,rfl,rfl,⟨P,rfl,rfl⟩,⟨rfl,[],rfl,rfl⟩,⟨rfl,[],rfl,rfl⟩,(by decide),(by decide),rfl,hqsEa19_2,rfl,rfl,⟨P,rfl,rfl⟩,⟨rfl,[],rfl,rfl⟩,hI0,(by decide),rfl,(by rw [hqsEa19_3]; rfl),trivial⟩ rfl) (Hd.en_o (by intro h; cases h) (Hd.en_eq (r:=(.bool .true)) (by rfl) (Hd.en_ret (v:=(.v (.bool .true))) (by kernel_rfl) rfl)))
  ·skip
   have ghqsEa19_2:=eqI_false hqsEa19_2
   exact absurd (dk_z (C:=[]) hI0 rfl) (eqI_false hqsEa19_2)
 ·skip
  have ghqsEa19_1:=eqI_false hqsEa19_1
  exact absurd (show eqI (if hoB (cT P) q d [] 0 n=true then 0 else 18) 18=true from by rw [hho]; rfl) (by rw [hqsEa19_1]; decide)
theorem sEa_14 (n:Nat) (d q:Int) (y:Value) (P:PL) (b e1 e2 p:Int) (hw:Known pg (clsO wkO)) (hb:0≤b∧b≤4294967295) (hu:0≤e1∧e1≤255) (hv0:0≤e2∧e2≤255) (ht:0≤p∧p≤255) (hE:roE n d q (cT P) P.length=0) (h0:(flt (mkB b) P.length).length=0) (hqsEa7_1:(ltI 30 P.length)=false) (hqsEa7_2:(eqI (roE n d q (cT P) P.length) 0)=true) (w:World) (hs:LN):Goes pg 129 sEaK12 ((qO6_15 P d e1 e2 n p q y)) (BaseW.H w hs) (OutH pg Try.f8 129 (.bool true) w):=by
 have hI:=icE_flt (st:=mkB b) hE
 obtain ⟨hm,⟨ha1,ha2,ha3⟩,hp0⟩:=roE_zero hE
 have hn:n≤1000:=by omega
 have hfl:=flt_24 (b:=b) hm
 have hho:hoB (cT P) q d [] 0 n=false:=ho_zero (by omega) (by omega)
 have hI0:=icE_f0 hI h0
 have ghqsEa7_1:=lF hqsEa7_1
 have ghqsEa7_2:=eqI_true hqsEa7_2
 refine gS (by kernel_rfl) ?_
 exact gL isN_e (gT cm (known_l5a hw) 200 (T':=(qO6_11 P d e1 e2 n p q y)) (e:=.normal) (ps:=[IsT P.length (cT P),IsC (0 + 1) 0 [],icE n d q (cT P) P.length [] 0=0,((0:Nat)≤1000)]) [.go,.go,.go,.go,.go,.go,.go] (by kernel_rfl) (by kernel_rfl) ⟨⟨P,rfl,rfl⟩,⟨rfl,[],rfl,rfl⟩,hI0,(by decide),trivial⟩ rfl) (Hd.en_n (sEa_17 n d q y P b e1 e2 p hw hb hu hv0 ht hE h0 hqsEa7_1 hqsEa7_2 w hs))
theorem sEa_11 (n:Nat) (d q:Int) (y:Value) (P:PL) (b e1 e2 p:Int) (hw:Known pg (clsO wkO)) (hb:0≤b∧b≤4294967295) (hu:0≤e1∧e1≤255) (hv0:0≤e2∧e2≤255) (ht:0≤p∧p≤255) (hE:roE n d q (cT P) P.length=0) (h0:(flt (mkB b) P.length).length=0) (hqsEa7_1:(ltI 30 P.length)=false) (hqsEa7_2:(eqI (roE n d q (cT P) P.length) 0)=true) (w:World) (hs:LN):Goes pg 129 sEaK9 ((qO6_19 P d e1 e2 n p q y)) (BaseW.H w hs) (OutH pg Try.f8 129 (.bool true) w):=by
 have hI:=icE_flt (st:=mkB b) hE
 obtain ⟨hm,⟨ha1,ha2,ha3⟩,hp0⟩:=roE_zero hE
 have hn:n≤1000:=by omega
 have hfl:=flt_24 (b:=b) hm
 have hho:hoB (cT P) q d [] 0 n=false:=ho_zero (by omega) (by omega)
 have hI0:=icE_f0 hI h0
 have ghqsEa7_1:=lF hqsEa7_1
 have ghqsEa7_2:=eqI_true hqsEa7_2
 refine gS (by kernel_rfl) ?_
 exact gL isN_e (gT cm (known_l5a hw) 200 (T':=(qO6_15 P d e1 e2 n p q y)) (e:=.normal) (ps:=[IsT P.length (cT P),IsC (0 + 1) 0 [],icE n d q (cT P) P.length [] 0=0,((0:Nat)≤1000),((0:Nat)=0)]) [.go,.go,.go,.go,.go,.go,.go,.go,.go] (by kernel_rfl) (by kernel_rfl) ⟨⟨P,rfl,rfl⟩,⟨rfl,[],rfl,rfl⟩,hI0,(by decide),rfl,trivial⟩ rfl) (Hd.en_n (sEa_14 n d q y P b e1 e2 p hw hb hu hv0 ht hE h0 hqsEa7_1 hqsEa7_2 w hs))
theorem sEa_8 (n:Nat) (d q:Int) (y:Value) (P:PL) (b e1 e2 p:Int) (hw:Known pg (clsO wkO)) (hb:0≤b∧b≤4294967295) (hu:0≤e1∧e1≤255) (hv0:0≤e2∧e2≤255) (ht:0≤p∧p≤255) (hE:roE n d q (cT P) P.length=0) (h0:(flt (mkB b) P.length).length=0) (hqsEa7_1:(ltI 30 P.length)=false) (hqsEa7_2:(eqI (roE n d q (cT P) P.length) 0)=true) (w:World) (hs:LN):Goes pg 129 sEaK6 ((qO6_20 P b d e1 e2 n p q y)) (BaseW.H w hs) (OutH pg Try.f8 129 (.bool true) w):=by
 have hI:=icE_flt (st:=mkB b) hE
 obtain ⟨hm,⟨ha1,ha2,ha3⟩,hp0⟩:=roE_zero hE
 have hn:n≤1000:=by omega
 have hfl:=flt_24 (b:=b) hm
 have hho:hoB (cT P) q d [] 0 n=false:=ho_zero (by omega) (by omega)
 have hI0:=icE_f0 hI h0
 have ghqsEa7_1:=lF hqsEa7_1
 have ghqsEa7_2:=eqI_true hqsEa7_2
 refine gS (by kernel_rfl) ?_
 exact gL isN_e (gT cm (known_l5a hw) 200 (T':=(qO6_19 P d e1 e2 n p q y)) (e:=.normal) (ps:=[FreeL (cT P),IsT P.length (cT P),P.length≤24,0≤b∧b≤4294967295,(flt (mkB b) P.length).length=0]) [.go,.go,.go] (by kernel_rfl) (by kernel_rfl) ⟨(fP (cT_plain P)),⟨P,rfl,rfl⟩,hm,hb,h0,trivial⟩ rfl) (Hd.en_n (sEa_11 n d q y P b e1 e2 p hw hb hu hv0 ht hE h0 hqsEa7_1 hqsEa7_2 w hs))
theorem sEa_5 (n:Nat) (d q:Int) (y:Value) (P:PL) (b e1 e2 p:Int) (hw:Known pg (clsO wkO)) (hb:0≤b∧b≤4294967295) (hu:0≤e1∧e1≤255) (hv0:0≤e2∧e2≤255) (ht:0≤p∧p≤255) (hE:roE n d q (cT P) P.length=0) (h0:(flt (mkB b) P.length).length=0) (w:World) (hs:LN):Goes pg 129 sEaK3 ((qO6_21 P b d e1 e2 n p q y)) (BaseW.H w hs) (OutH pg Try.f8 129 (.bool true) w):=by
 have hI:=icE_flt (st:=mkB b) hE
 obtain ⟨hm,⟨ha1,ha2,ha3⟩,hp0⟩:=roE_zero hE
 have hn:n≤1000:=by omega
 have hfl:=flt_24 (b:=b) hm
 have hho:hoB (cT P) q d [] 0 n=false:=ho_zero (by omega) (by omega)
 have hI0:=icE_f0 hI h0
 refine gS (by kernel_rfl) ?_
 rcases bE (ltI 30 P.length) with hqsEa7_1 | hqsEa7_1
 ·skip
  have ghqsEa7_1:=lT hqsEa7_1
  exfalso
  have h9:=lT hqsEa7_1
  omega
 ·skip
  have ghqsEa7_1:=lF hqsEa7_1
  rcases bE (eqI (roE n d q (cT P) P.length) 0) with hqsEa7_2 | hqsEa7_2
  ·skip
   have ghqsEa7_2:=eqI_true hqsEa7_2
   exact gL isN_e (gT cm (known_l5a hw) 200 (T':=(qO6_20 P b d e1 e2 n p q y)) (e:=.normal) (ps:=[IsT P.length (cT P),(!ltI 30 P.length)=true,true=true,IsT P.length (cT P),true=true,(!eqI (roE n d q (cT P) P.length) 0)=false]) [.go,.go,.go,.go,.go,.go,.b true,.go,.b true,.b true,.go,.go,.go,.go,.b false] (by kernel_rfl) (by kernel_rfl) ⟨⟨P,rfl,rfl⟩,(by rw [hqsEa7_1]; rfl),rfl,⟨P,rfl,rfl⟩,rfl,(by rw [hqsEa7_2]; rfl),trivial⟩ rfl) (Hd.en_n (sEa_8 n d q y P b e1 e2 p hw hb hu hv0 ht hE h0 hqsEa7_1 hqsEa7_2 w hs))
  ·skip
   have ghqsEa7_2:=eqI_false hqsEa7_2
   exact absurd hE (eqI_false hqsEa7_2)
theorem sEa_2 (n:Nat) (d q:Int) (y:Value) (P:PL) (b e1 e2 p:Int) (hw:Known pg (clsO wkO)) (hb:0≤b∧b≤4294967295) (hu:0≤e1∧e1≤255) (hv0:0≤e2∧e2≤255) (ht:0≤p∧p≤255) (hE:roE n d q (cT P) P.length=0) (h0:(flt (mkB b) P.length).length=0) (w:World) (hs:LN):Goes pg 129 sEaK1 ((qO6_24 P b d e1 e2 n p q y)) (BaseW.H w hs) (OutH pg Try.f8 129 (.bool true) w):=by
 have hI:=icE_flt (st:=mkB b) hE
 obtain ⟨hm,⟨ha1,ha2,ha3⟩,hp0⟩:=roE_zero hE
 have hn:n≤1000:=by omega
 have hfl:=flt_24 (b:=b) hm
 have hho:hoB (cT P) q d [] 0 n=false:=ho_zero (by omega) (by omega)
 have hI0:=icE_f0 hI h0
 refine gS (by kernel_rfl) ?_
 exact gL isN_e (gT cm (known_l5a hw) 200 (T':=(qO6_21 P b d e1 e2 n p q y)) (e:=.normal) (ps:=[]) [.go,.go,.go] (by kernel_rfl) (by kernel_rfl) trivial rfl) (Hd.en_n (sEa_5 n d q y P b e1 e2 p hw hb hu hv0 ht hE h0 w hs))
theorem sei_a (n:Nat) (d q:Int) (y:Value) (P:PL) (b e1 e2 p:Int) (hw:Known pg (clsO wkO)) (hb:0≤b∧b≤4294967295) (hu:0≤e1∧e1≤255) (hv0:0≤e2∧e2≤255) (ht:0≤p∧p≤255) (hE:roE n d q (cT P) P.length=0) (h0:(flt (mkB b) P.length).length=0):GivesA pg 8 [(.agg [.v (.int .i64 n),.v (.int .i64 d),.v (.int .i64 q),.xl y P.length 3 (cT P)]),(.v (.int .u32 b)),(.agg [.v (.int .u8 e1),.v (.int .u8 e2)]),(.v (.int .u8 p))] (.bool true) :=
 givesA_partsH 129 Try.func8 (by kernel_rfl) (by kernel_rfl) (by kernel_rfl) (fun w=>goes_less (by kernel_rfl) (by kernel_rfl) (by kernel_rfl) (by kernel_rfl) (sEa_2 n d q y P b e1 e2 p hw hb hu hv0 ht hE h0 w []))
def sE5K1:Code:=bodyC Try.f8
def sE5K3:Code:=tlC sE5K1
def sE5K6:Code:=tlC sE5K3
def sE5K9:Code:=tlC sE5K6
def sE5K12:Code:=tlC sE5K9
def sE5K15:Code:=tlC sE5K12
def sE5K18:Code:=tlC sE5K15
def sE5K21:Code:=tlC sE5K18
def sE5K24:Code:=tlC sE5K21
def sE5K27:Code:=tlC sE5K24
def sE5K28:Code:=(hdC sE5K24)
def sE5K30:Code:=tlC sE5K28
def sE5K35:Code:=loopC sE5K30
theorem sE5_38 (n:Nat) (d q:Int) (y:Value) (P:PL) (b e1 e2 p:Int) (hw:Known pg (clsO wkO)) (hb:0≤b∧b≤4294967295) (hu:0≤e1∧e1≤255) (hv0:0≤e2∧e2≤255) (ht:0≤p∧p≤255) (hE:roE n d q (cT P) P.length=0) (h0:0 < (flt (mkB b) P.length).length) (hv:(drV (cT P) q d (qO6_41 P b) (flt (mkB b) P.length).length n)=n) (hqsE57_1:(ltI 30 P.length)=false) (hqsE57_2:(eqI (roE n d q (cT P) P.length) 0)=true) (hqsE522_1:(eqI (if hoB (cT P) q d (List.take ((flt (mkB b) P.length).length * (0 + 1)) (List.drop 0 (qO6_41 P b))) (flt (mkB b) P.length).length n=true then 0 else 18) 0)=true) (hqsE522_2:(hoB (cT P) q d (List.take ((flt (mkB b) P.length).length * (0 + 1)) (List.drop 0 (qO6_41 P b))) (flt (mkB b) P.length).length n)=true) (h0b:True) (hc0:(ouL (flt (mkB b) P.length) d ((IntKind.i64.wrap e1).tmod (((flt (mkB b) P.length).length:Nat):Int)) ((IntKind.i64.wrap e2).tmod (((flt (mkB b) P.length).length:Nat):Int)) ((flt (mkB b) P.length).length)).length=0) (hqsE537_1:(ltI (((flt (mkB b) P.length).length:Nat):Int) (((flt (mkB b) P.length).length:Nat):Int))=false) (w:World) (hs:LN):Goes pg 129 sE5K27 ((qO6_18 P b d n p q y)) (BaseW.H w hs) (OutH pg Try.f8 129 (.bool true) w):=by
 have hI:=icE_flt (st:=mkB b) hE
 obtain ⟨hm,⟨ha1,ha2,ha3⟩,hp0⟩:=roE_zero hE
 have hn:n≤1000:=by omega
 have hfl:=flt_24 (b:=b) hm
 have hho:=ho_v5 hv
 have h14:=fun z hz=>h14_5 (e1:=e1) (e2:=e2) hI hho (by omega) z hz
 have hz:=hz_5 (n:=n) ht (by omega)
 have ghqsE57_1:=lF hqsE57_1
 have ghqsE57_2:=eqI_true hqsE57_2
 have ghqsE522_1:=eqI_true hqsE522_1
 have ghqsE537_1:=lF hqsE537_1
 rcases bE (eqI (cdE n d q (cT P) P.length (List.take ((flt (mkB b) P.length).length * (0 + 1)) (List.drop 0 (qO6_41 P b))) (flt (mkB b) P.length).length ((IntKind.i64.wrap p).tmod n) [] 0) 14) with hqsE539_1 | hqsE539_1
 ·skip
  have ghqsE539_1:=eqI_true hqsE539_1
  exact gL isR_e (gT cm (known_l55 hw) 200 (T':=⟨[(8,(.v (.bool .true)))],[],4,[]⟩) (e:=.ret) (ps:=[(n:Int)≠0,0 + (flt (mkB b) P.length).length * (0 + 1)≤((qO6_41 P b):List AV).length,IsT P.length (cT P),IsC (0 + 1) (flt (mkB b) P.length).length (List.take ((flt (mkB b) P.length).length * (0 + 1)) (List.drop 0 (qO6_41 P b))),IsC (0 + 1) 0 [],(flt (mkB b) P.length).length≤1000,((0:Nat)≤1000),eqI (cdE n d q (cT P) P.length (List.take ((flt (mkB b) P.length).length * (0 + 1)) (List.drop 0 (qO6_41 P b))) (flt (mkB b) P.length).length ((IntKind.i64.wrap p).tmod n) [] 0) 14=true]) [.go,.go,.go,.go,.go,.go,.go,.go,.go,.go,.b true,.go,.go] (by kernel_rfl) (by kernel_rfl) ⟨(by omega),(by show _≤(cI _).length; rw [cI_len]; omega),⟨P,rfl,rfl⟩,⟨rfl,_,takeL,rfl⟩,⟨rfl,[],rfl,rfl⟩,(by have:=flt_le (mkB b) P.length; omega),(by decide),hqsE539_1,trivial⟩ rfl) (Hd.en_eq (r:=(.bool .true)) (by rfl) (Hd.en_ret (v:=(.v (.bool .true))) (by kernel_rfl) rfl))
 ·skip
  have ghqsE539_1:=eqI_false hqsE539_1
  exact absurd (show cdE n d q (cT P) P.length (List.take ((flt (mkB b) P.length).length * 1) (List.drop 0 (qO6_41 P b))) (flt (mkB b) P.length).length ((IntKind.i64.wrap p).tmod n) [] 0=14 from by have h8:=h14 _ hz; rw [hc0,ou_nil hc0] at h8; rw [takeL]; exact h8) (eqI_false hqsE539_1)
theorem sE5_36 (n:Nat) (d q:Int) (y:Value) (P:PL) (b e1 e2 p:Int) (hw:Known pg (clsO wkO)) (hb:0≤b∧b≤4294967295) (hu:0≤e1∧e1≤255) (hv0:0≤e2∧e2≤255) (ht:0≤p∧p≤255) (hE:roE n d q (cT P) P.length=0) (h0:0 < (flt (mkB b) P.length).length) (hv:(drV (cT P) q d (cI (flt (mkB b) P.length)) (flt (mkB b) P.length).length n)=n) (hqsE57_1:(ltI 30 P.length)=false) (hqsE57_2:(eqI (roE n d q (cT P) P.length) 0)=true) (hqsE522_1:(eqI (if hoB (cT P) q d (List.take ((flt (mkB b) P.length).length * (0 + 1)) (List.drop 0 (cI (flt (mkB b) P.length)))) (flt (mkB b) P.length).length n=true then 0 else 18) 0)=true) (hqsE522_2:(hoB (cT P) q d (List.take ((flt (mkB b) P.length).length * (0 + 1)) (List.drop 0 (cI (flt (mkB b) P.length)))) (flt (mkB b) P.length).length n)=true) (i:Nat) (hi1:i≤(flt (mkB b) P.length).length) (hi2:True) (hc0:(ouL (flt (mkB b) P.length) d ((IntKind.i64.wrap e1).tmod (((flt (mkB b) P.length).length:Nat):Int)) ((IntKind.i64.wrap e2).tmod (((flt (mkB b) P.length).length:Nat):Int)) i).length=0) (w:World) (hs:LN):Goes pg 129 sE5K35 (⟨[(3,(.v (.int .u8 (p)))),(4,(.ptr 0 0)),(6,(.ptr 1 0)),(qO6_37 P b),qO6_40,(16,(.v (.int .i64 i)))],[],4,[(qO6_33 P d n q y),(qO6_35 e1 e2),(qO6_38 P b)]⟩) (BaseW.H w hs) (Hd.StepC pg 129 0 (fun i:{i:Nat // i≤(flt (mkB b) P.length).length∧True}=>(Ev.fam0 (⟨[(3,(.v (.int .u8 (p)))),(4,(.ptr 0 0)),(6,(.ptr 1 0)),(qO6_37 P b),qO6_40,(16,(.v (.int .i64 i.1)))],[],4,[(qO6_33 P d n q y),(qO6_35 e1 e2),(qO6_38 P b)]⟩:Ev.Lit) (fun k=>(⟨[(3,(.v (.int .u8 (p)))),(4,(.ptr 0 0)),(6,(.ptr 1 0)),(qO6_37 P b),(15,(.slu 4 0 (k + 1) 0)),(16,(.v (.int .i64 i.1)))],[],5,[(qO6_33 P d n q y),(qO6_35 e1 e2),(qO6_38 P b),(4,(.row (cI (ouL (flt (mkB b) P.length) d ((IntKind.i64.wrap e1).tmod (((flt (mkB b) P.length).length:Nat):Int)) ((IntKind.i64.wrap e2).tmod (((flt (mkB b) P.length).length:Nat):Int)) i.1)) 3 1))]⟩:Ev.Lit)) (ouL (flt (mkB b) P.length) d ((IntKind.i64.wrap e1).tmod (((flt (mkB b) P.length).length:Nat):Int)) ((IntKind.i64.wrap e2).tmod (((flt (mkB b) P.length).length:Nat):Int)) i.1).length)) (fun i:{i:Nat // i≤(flt (mkB b) P.length).length∧True}=>(flt (mkB b) P.length).length - i.1) sE5K27 w (OutH pg Try.f8 129 (.bool true) w) (⟨i,hi1,hi2⟩:{i:Nat // i≤(flt (mkB b) P.length).length∧True})):=by
 have hI:=icE_flt (st:=mkB b) hE
 obtain ⟨hm,⟨ha1,ha2,ha3⟩,hp0⟩:=roE_zero hE
 have hn:n≤1000:=by omega
 have hfl:=flt_24 (b:=b) hm
 have hho:=ho_v5 hv
 have h14:=fun z hz=>h14_5 (e1:=e1) (e2:=e2) hI hho (by omega) z hz
 have hz:=hz_5 (n:=n) ht (by omega)
 have ghqsE57_1:=lF hqsE57_1
 have ghqsE57_2:=eqI_true hqsE57_2
 have ghqsE522_1:=eqI_true hqsE522_1
 rcases bE (ltI i (((flt (mkB b) P.length).length:Nat):Int)) with hqsE537_1 | hqsE537_1
 ·skip
  have ghqsE537_1:=lT hqsE537_1
  rcases bE (ltI 0 d) with hqsE537_2 | hqsE537_2
  ·skip
   have ghqsE537_2:=lT hqsE537_2
   rcases bE (eqI i ((IntKind.i64.wrap e1).tmod (((flt (mkB b) P.length).length:Nat):Int))) with hqsE537_3 | hqsE537_3
   ·skip
    have ghqsE537_3:=eqI_true hqsE537_3
    exact gL isN_e (gC cm (known_l55 hw) 200 (T':=(qO6_7 P b d e1 e2 i n p q y)) (e:=.normal) (m:=6) (ps:=[ltI i (((flt (mkB b) P.length).length:Nat):Int)=true,ltI 0 d=true,true=true,true=true,true=true,true=true,true=true,true=true,(((flt (mkB b) P.length).length:Nat):Int)≠0,true=true,true=true,eqI i ((IntKind.i64.wrap e1).tmod (((flt (mkB b) P.length).length:Nat):Int))=true,true=true,true=true,true=true,true=true,true=true,true=true,true=true,true=true,true=true,i < (flt (mkB b) P.length).length,loadL pg (cI (flt (mkB b) P.length)) (0 + i * 1) 3=some (.v (.int .i64 (intAt (cI (flt (mkB b) P.length)) (0 + i * 1)))),inR .i64 (((i:Nat):Int) + 1)]) [.go,.go,.go,.go,.b true,.go,.go,.go,.go,.go,.go,.b true,.go,.b true,.go,.b true,.go,.b true,.go,.b true,.go,.b true,.go,.b true,.go,.b true,.go,.b true,.go,.b true,.b true,.b true,.b true,.b true,.b true,.b true,.b true,.b true,.go,.go,.b true,.go,.go,.go,.sym,.sym,.go,.go,.go,.go,.go,.go] [0,1,2,3,5] [(.v (.int .u8 (p))),(.ptr 0 0),(.ptr 1 0),(.slu 3 0 ((flt (mkB b) P.length).length) 0),(.slu 5 0 1 0),(.v (.int .i64 (((i:Nat):Int) + 1)))] [(qO6_34 P d n q y),(qO6_36 e1 e2),(qO6_39 P b),(.row [(.v (.int .i64 (intAt (cI (flt (mkB b) P.length)) (0 + i * 1))))] 3 1)] (by kernel_rfl) (by kernel_rfl) ⟨hqsE537_1,hqsE537_2,rfl,rfl,rfl,rfl,rfl,rfl,(by omega),rfl,rfl,hqsE537_3,rfl,rfl,rfl,rfl,rfl,rfl,rfl,rfl,rfl,(by omega),(by rw [Nat.mul_one]; exact cI_load (by omega) 3 (u3) rfl),(iRO6 (by omega) (by omega)),trivial⟩ rfl rfl (by decide) rfl ⟨nr_v _,nr_ptr rfl,nr_ptr rfl,nr_slu rfl,nr_slu rfl,nr_int (show ((((i:Nat):Int) + 1):Int)=(((i + 1):Nat):Int) from by omega),trivial⟩ ⟨⟨by show 0 < 5; decide,nrb_cells (nrl_cons (nr_v _) (nrl_cons (nr_v _) (nrl_cons (nr_v _) (nrl_cons (nr_xl (nrl_plain (cT_plain P))) (nrl_nil)))))⟩,⟨by show 1 < 5; decide,nrb_cells (nrl_cons (nr_v _) (nrl_cons (nr_v _) (nrl_nil)))⟩,⟨by show 3 < 5; decide,nrb_row (nrl_plain (cI_plain _))⟩,⟨by show 4 < 5; decide,nrb_row (nrl_eq (show ((cI (ouL (flt (mkB b) P.length) d ((IntKind.i64.wrap e1).tmod (((flt (mkB b) P.length).length:Nat):Int)) ((IntKind.i64.wrap e2).tmod (((flt (mkB b) P.length).length:Nat):Int)) (i + 1))):List AV)=[(.v (.int .i64 (intAt (cI (flt (mkB b) P.length)) (0 + i * 1))))] from by (rw [ou_rowT (by rw [hc0]; exact lT hqsE537_2) (.inl (eqI_true hqsE537_3)),ou_nil hc0]; rfl)) (cI_plain _))⟩,trivial⟩) (eO ⟨i + 1,by omega,trivial⟩ (by show (flt (mkB b) P.length).length - (i + 1) < (flt (mkB b) P.length).length - i; omega) (show ((qO6_7 P b d e1 e2 i n p q y):Ev.Lit)=(Ev.fam0 ((qO6_13 P b d e1 e2 i n p q y):Ev.Lit) (fun k=>((qO6_6 P b d e1 e2 i k n p q y):Ev.Lit)) (ouL (flt (mkB b) P.length) d ((IntKind.i64.wrap e1).tmod (((flt (mkB b) P.length).length:Nat):Int)) ((IntKind.i64.wrap e2).tmod (((flt (mkB b) P.length).length:Nat):Int)) (i + 1)).length) from congrArg (Ev.fam0 ((qO6_13 P b d e1 e2 i n p q y):Ev.Lit) (fun k=>((qO6_6 P b d e1 e2 i k n p q y):Ev.Lit))) (show (0 + 1:Nat)=(ouL (flt (mkB b) P.length) d ((IntKind.i64.wrap e1).tmod (((flt (mkB b) P.length).length:Nat):Int)) ((IntKind.i64.wrap e2).tmod (((flt (mkB b) P.length).length:Nat):Int)) (i + 1)).length from (show (ouL (flt (mkB b) P.length) d ((IntKind.i64.wrap e1).tmod (((flt (mkB b) P.length).length:Nat):Int)) ((IntKind.i64.wrap e2).tmod (((flt (mkB b) P.length).length:Nat):Int)) (i + 1)).length=0 + 1 from by exact ou_lenT (by rw [hc0]; exact lT hqsE537_2) (.inl (eqI_true hqsE537_3)) hc0).symm)))
   ·skip
    have ghqsE537_3:=eqI_false hqsE537_3
    rcases bE (eqI i ((IntKind.i64.wrap e2).tmod (((flt (mkB b) P.length).length:Nat):Int))) with hqsE537_4 | hqsE537_4
    ·skip
     have ghqsE537_4:=eqI_true hqsE537_4
     exact gL isN_e (gC cm (known_l55 hw) 200 (T':=(qO6_7 P b d e1 e2 i n p q y)) (e:=.normal) (m:=6) (ps:=[ltI i (((flt (mkB b) P.length).length:Nat):Int)=true,ltI 0 d=true,true=true,true=true,true=true,true=true,true=true,true=true,(((flt (mkB b) P.length).length:Nat):Int)≠0,true=true,true=true,eqI i ((IntKind.i64.wrap e1).tmod (((flt (mkB b) P.length).length:Nat):Int))=false,false=false,false=false,false=false,false=false,false=false,false=false,(((flt (mkB b) P.length).length:Nat):Int)≠0,false=false,true=true,eqI i ((IntKind.i64.wrap e2).tmod (((flt (mkB b) P.length).length:Nat):Int))=true,i < (flt (mkB b) P.length).length,loadL pg (cI (flt (mkB b) P.length)) (0 + i * 1) 3=some (.v (.int .i64 (intAt (cI (flt (mkB b) P.length)) (0 + i * 1)))),inR .i64 (((i:Nat):Int) + 1)]) [.go,.go,.go,.go,.b true,.go,.go,.go,.go,.go,.go,.b true,.go,.b true,.go,.b true,.go,.b true,.go,.b true,.go,.b true,.go,.b true,.go,.b true,.go,.b true,.go,.b false,.go,.b false,.go,.b false,.go,.b false,.go,.b false,.go,.b false,.go,.b false,.go,.b false,.go,.b true,.go,.go,.b true,.go,.go,.go,.sym,.sym,.go,.go,.go,.go,.go,.go] [0,1,2,3,5] [(.v (.int .u8 (p))),(.ptr 0 0),(.ptr 1 0),(.slu 3 0 ((flt (mkB b) P.length).length) 0),(.slu 5 0 1 0),(.v (.int .i64 (((i:Nat):Int) + 1)))] [(qO6_34 P d n q y),(qO6_36 e1 e2),(qO6_39 P b),(.row [(.v (.int .i64 (intAt (cI (flt (mkB b) P.length)) (0 + i * 1))))] 3 1)] (by kernel_rfl) (by kernel_rfl) ⟨hqsE537_1,hqsE537_2,rfl,rfl,rfl,rfl,rfl,rfl,(by omega),rfl,rfl,hqsE537_3,rfl,rfl,rfl,rfl,rfl,rfl,(by omega),rfl,rfl,hqsE537_4,(by omega),(by rw [Nat.mul_one]; exact cI_load (by omega) 3 (u3) rfl),(iRO6 (by omega) (by omega)),trivial⟩ rfl rfl (by decide) rfl ⟨nr_v _,nr_ptr rfl,nr_ptr rfl,nr_slu rfl,nr_slu rfl,nr_int (show ((((i:Nat):Int) + 1):Int)=(((i + 1):Nat):Int) from by omega),trivial⟩ ⟨⟨by show 0 < 5; decide,nrb_cells (nrl_cons (nr_v _) (nrl_cons (nr_v _) (nrl_cons (nr_v _) (nrl_cons (nr_xl (nrl_plain (cT_plain P))) (nrl_nil)))))⟩,⟨by show 1 < 5; decide,nrb_cells (nrl_cons (nr_v _) (nrl_cons (nr_v _) (nrl_nil)))⟩,⟨by show 3 < 5; decide,nrb_row (nrl_plain (cI_plain _))⟩,⟨by show 4 < 5; decide,nrb_row (nrl_eq (show ((cI (ouL (flt (mkB b) P.length) d ((IntKind.i64.wrap e1).tmod (((flt (mkB b) P.length).length:Nat):Int)) ((IntKind.i64.wrap e2).tmod (((flt (mkB b) P.length).length:Nat):Int)) (i + 1))):List AV)=[(.v (.int .i64 (intAt (cI (flt (mkB b) P.length)) (0 + i * 1))))] from by (rw [ou_rowT (by rw [hc0]; exact lT hqsE537_2) (.inr (eqI_true hqsE537_4)),ou_nil hc0]; rfl)) (cI_plain _))⟩,trivial⟩) (eO ⟨i + 1,by omega,trivial⟩ (by show (flt (mkB b) P.length).length - (i + 1) < (flt (mkB b) P.length).length - i; omega) (show ((qO6_7 P b d e1 e2 i n p q y):Ev.Lit)=(Ev.fam0 ((qO6_13 P b d e1 e2 i n p q y):Ev.Lit) (fun k=>((qO6_6 P b d e1 e2 i k n p q y):Ev.Lit)) (ouL (flt (mkB b) P.length) d ((IntKind.i64.wrap e1).tmod (((flt (mkB b) P.length).length:Nat):Int)) ((IntKind.i64.wrap e2).tmod (((flt (mkB b) P.length).length:Nat):Int)) (i + 1)).length) from congrArg (Ev.fam0 ((qO6_13 P b d e1 e2 i n p q y):Ev.Lit) (fun k=>((qO6_6 P b d e1 e2 i k n p q y):Ev.Lit))) (show (0 + 1:Nat)=(ouL (flt (mkB b) P.length) d ((IntKind.i64.wrap e1).tmod (((flt (mkB b) P.length).length:Nat):Int)) ((IntKind.i64.wrap e2).tmod (((flt (mkB b) P.length).length:Nat):Int)) (i + 1)).length from (show (ouL (flt (mkB b) P.length) d ((IntKind.i64.wrap e1).tmod (((flt (mkB b) P.length).length:Nat):Int)) ((IntKind.i64.wrap e2).tmod (((flt (mkB b) P.length).length:Nat):Int)) (i + 1)).length=0 + 1 from by exact ou_lenT (by rw [hc0]; exact lT hqsE537_2) (.inr (eqI_true hqsE537_4)) hc0).symm)))
    ·skip
     have ghqsE537_4:=eqI_false hqsE537_4
     exact gL isN_e (gC cm (known_l55 hw) 200 (T':=(qO6_13 P b d e1 e2 i n p q y)) (e:=.normal) (m:=4) (ps:=[ltI i (((flt (mkB b) P.length).length:Nat):Int)=true,ltI 0 d=true,true=true,true=true,true=true,true=true,true=true,true=true,(((flt (mkB b) P.length).length:Nat):Int)≠0,true=true,true=true,eqI i ((IntKind.i64.wrap e1).tmod (((flt (mkB b) P.length).length:Nat):Int))=false,false=false,false=false,false=false,false=false,false=false,false=false,(((flt (mkB b) P.length).length:Nat):Int)≠0,false=false,true=true,eqI i ((IntKind.i64.wrap e2).tmod (((flt (mkB b) P.length).length:Nat):Int))=false,inR .i64 (((i:Nat):Int) + 1)]) [.go,.go,.go,.go,.b true,.go,.go,.go,.go,.go,.go,.b true,.go,.b true,.go,.b true,.go,.b true,.go,.b true,.go,.b true,.go,.b true,.go,.b true,.go,.b true,.go,.b false,.go,.b false,.go,.b false,.go,.b false,.go,.b false,.go,.b false,.go,.b false,.go,.b false,.go,.b true,.go,.go,.b false,.go,.go,.go] [0,1,2,3] [(.v (.int .u8 (p))),(.ptr 0 0),(.ptr 1 0),(.slu 3 0 ((flt (mkB b) P.length).length) 0),(.v (Value.slice none 0 0)),(.v (.int .i64 (((i:Nat):Int) + 1)))] [(qO6_34 P d n q y),(qO6_36 e1 e2),(qO6_39 P b)] (by kernel_rfl) (by kernel_rfl) ⟨hqsE537_1,hqsE537_2,rfl,rfl,rfl,rfl,rfl,rfl,(by omega),rfl,rfl,hqsE537_3,rfl,rfl,rfl,rfl,rfl,rfl,(by omega),rfl,rfl,hqsE537_4,(iRO6 (by omega) (by omega)),trivial⟩ rfl rfl (by decide) rfl ⟨nr_v _,nr_ptr rfl,nr_ptr rfl,nr_slu rfl,nr_v _,nr_int (show ((((i:Nat):Int) + 1):Int)=(((i + 1):Nat):Int) from by omega),trivial⟩ ⟨⟨by show 0 < 4; decide,nrb_cells (nrl_cons (nr_v _) (nrl_cons (nr_v _) (nrl_cons (nr_v _) (nrl_cons (nr_xl (nrl_plain (cT_plain P))) (nrl_nil)))))⟩,⟨by show 1 < 4; decide,nrb_cells (nrl_cons (nr_v _) (nrl_cons (nr_v _) (nrl_nil)))⟩,⟨by show 3 < 4; decide,nrb_row (nrl_plain (cI_plain _))⟩,trivial⟩) (eO ⟨i + 1,by omega,trivial⟩ (by show (flt (mkB b) P.length).length - (i + 1) < (flt (mkB b) P.length).length - i; omega) (show ((qO6_13 P b d e1 e2 i n p q y):Ev.Lit)=(Ev.fam0 ((qO6_13 P b d e1 e2 i n p q y):Ev.Lit) (fun k=>((qO6_6 P b d e1 e2 i k n p q y):Ev.Lit)) (ouL (flt (mkB b) P.length) d ((IntKind.i64.wrap e1).tmod (((flt (mkB b) P.length).length:Nat):Int)) ((IntKind.i64.wrap e2).tmod (((flt (mkB b) P.length).length:Nat):Int)) (i + 1)).length) from congrArg (Ev.fam0 ((qO6_13 P b d e1 e2 i n p q y):Ev.Lit) (fun k=>((qO6_6 P b d e1 e2 i k n p q y):Ev.Lit))) (show (0:Nat)=(ouL (flt (mkB b) P.length) d ((IntKind.i64.wrap e1).tmod (((flt (mkB b) P.length).length:Nat):Int)) ((IntKind.i64.wrap e2).tmod (((flt (mkB b) P.length).length:Nat):Int)) (i + 1)).length from (show (ouL (flt (mkB b) P.length) d ((IntKind.i64.wrap e1).tmod (((flt (mkB b) P.length).length:Nat):Int)) ((IntKind.i64.wrap e2).tmod (((flt (mkB b) P.length).length:Nat):Int)) (i + 1)).length=0 from by exact ou_lenF (fun h9=>h9.2.elim (eqI_false hqsE537_3) (eqI_false hqsE537_4)) hc0).symm)))
  ·skip
   have ghqsE537_2:=lF hqsE537_2
   exact gL isN_e (gC cm (known_l55 hw) 200 (T':=(qO6_13 P b d e1 e2 i n p q y)) (e:=.normal) (m:=4) (ps:=[ltI i (((flt (mkB b) P.length).length:Nat):Int)=true,ltI 0 d=false,false=false,false=false,false=false,false=false,false=false,false=false,false=false,false=false,false=false,false=false,inR .i64 (((i:Nat):Int) + 1)]) [.go,.go,.go,.go,.b true,.go,.go,.go,.go,.go,.go,.b false,.b false,.b false,.b false,.b false,.b false,.b false,.b false,.b false,.b false,.go,.b false,.go,.go,.go] [0,1,2,3] [(.v (.int .u8 (p))),(.ptr 0 0),(.ptr 1 0),(.slu 3 0 ((flt (mkB b) P.length).length) 0),(.v (Value.slice none 0 0)),(.v (.int .i64 (((i:Nat):Int) + 1)))] [(qO6_34 P d n q y),(qO6_36 e1 e2),(qO6_39 P b)] (by kernel_rfl) (by kernel_rfl) ⟨hqsE537_1,hqsE537_2,rfl,rfl,rfl,rfl,rfl,rfl,rfl,rfl,rfl,rfl,(iRO6 (by omega) (by omega)),trivial⟩ rfl rfl (by decide) rfl ⟨nr_v _,nr_ptr rfl,nr_ptr rfl,nr_slu rfl,nr_v _,nr_int (show ((((i:Nat):Int) + 1):Int)=(((i + 1):Nat):Int) from by omega),trivial⟩ ⟨⟨by show 0 < 4; decide,nrb_cells (nrl_cons (nr_v _) (nrl_cons (nr_v _) (nrl_cons (nr_v _) (nrl_cons (nr_xl (nrl_plain (cT_plain P))) (nrl_nil)))))⟩,⟨by show 1 < 4; decide,nrb_cells (nrl_cons (nr_v _) (nrl_cons (nr_v _) (nrl_nil)))⟩,⟨by show 3 < 4; decide,nrb_row (nrl_plain (cI_plain _))⟩,trivial⟩) (eO ⟨i + 1,by omega,trivial⟩ (by show (flt (mkB b) P.length).length - (i + 1) < (flt (mkB b) P.length).length - i; omega) (show ((qO6_13 P b d e1 e2 i n p q y):Ev.Lit)=(Ev.fam0 ((qO6_13 P b d e1 e2 i n p q y):Ev.Lit) (fun k=>((qO6_6 P b d e1 e2 i k n p q y):Ev.Lit)) (ouL (flt (mkB b) P.length) d ((IntKind.i64.wrap e1).tmod (((flt (mkB b) P.length).length:Nat):Int)) ((IntKind.i64.wrap e2).tmod (((flt (mkB b) P.length).length:Nat):Int)) (i + 1)).length) from congrArg (Ev.fam0 ((qO6_13 P b d e1 e2 i n p q y):Ev.Lit) (fun k=>((qO6_6 P b d e1 e2 i k n p q y):Ev.Lit))) (show (0:Nat)=(ouL (flt (mkB b) P.length) d ((IntKind.i64.wrap e1).tmod (((flt (mkB b) P.length).length:Nat):Int)) ((IntKind.i64.wrap e2).tmod (((flt (mkB b) P.length).length:Nat):Int)) (i + 1)).length from (show (ouL (flt (mkB b) P.length) d ((IntKind.i64.wrap e1).tmod (((flt (mkB b) P.length).length:Nat):Int)) ((IntKind.i64.wrap e2).tmod (((flt (mkB b) P.length).length:Nat):Int)) (i + 1)).length=0 from by exact ou_lenF (fun h9=>by have h7:=lF hqsE537_2; have h8:=h9.1; rw [hc0] at h8; omega) hc0).symm)))
 ·skip
  have ghqsE537_1:=lF hqsE537_1
  obtain rfl:i=(flt (mkB b) P.length).length:=by omega
  exact gL isX_e (gT cm (known_l55 hw) 200 (T':=(qO6_18 P b d n p q y)) (e:=.exit 0) (ps:=[ltI (((flt (mkB b) P.length).length:Nat):Int) (((flt (mkB b) P.length).length:Nat):Int)=false]) [.go,.go,.go,.go,.b false] (by kernel_rfl) (by kernel_rfl) ⟨hqsE537_1,trivial⟩ rfl) (Hd.en_sx (sE5_38 n d q y P b e1 e2 p hw hb hu hv0 ht hE h0 hv hqsE57_1 hqsE57_2 hqsE522_1 hqsE522_2 hi2 hc0 hqsE537_1 w hs))
theorem sE5_42 (n:Nat) (d q:Int) (y:Value) (P:PL) (b e1 e2 p:Int) (hw:Known pg (clsO wkO)) (hb:0≤b∧b≤4294967295) (hu:0≤e1∧e1≤255) (hv0:0≤e2∧e2≤255) (ht:0≤p∧p≤255) (hE:roE n d q (cT P) P.length=0) (h0:0 < (flt (mkB b) P.length).length) (hv:(drV (cT P) q d (cI (flt (mkB b) P.length)) (flt (mkB b) P.length).length n)=n) (hqsE57_1:(ltI 30 P.length)=false) (hqsE57_2:(eqI (roE n d q (cT P) P.length) 0)=true) (hqsE522_1:(eqI (if hoB (cT P) q d (List.take ((flt (mkB b) P.length).length * (0 + 1)) (List.drop 0 (cI (flt (mkB b) P.length)))) (flt (mkB b) P.length).length n=true then 0 else 18) 0)=true) (hqsE522_2:(hoB (cT P) q d (List.take ((flt (mkB b) P.length).length * (0 + 1)) (List.drop 0 (cI (flt (mkB b) P.length)))) (flt (mkB b) P.length).length n)=true) (h0b:True) (k:Nat) (hc0:(ouL (flt (mkB b) P.length) d ((IntKind.i64.wrap e1).tmod (((flt (mkB b) P.length).length:Nat):Int)) ((IntKind.i64.wrap e2).tmod (((flt (mkB b) P.length).length:Nat):Int)) ((flt (mkB b) P.length).length)).length=k + 1) (hqsE541_1:(ltI (((flt (mkB b) P.length).length:Nat):Int) (((flt (mkB b) P.length).length:Nat):Int))=false) (w:World) (hs:LN):Goes pg 129 sE5K27 ((qO6_10 P b d e1 e2 k n p q y)) (BaseW.H w hs) (OutH pg Try.f8 129 (.bool true) w):=by
 have hI:=icE_flt (st:=mkB b) hE
 obtain ⟨hm,⟨ha1,ha2,ha3⟩,hp0⟩:=roE_zero hE
 have hn:n≤1000:=by omega
 have hfl:=flt_24 (b:=b) hm
 have hho:=ho_v5 hv
 have h14:=fun z hz=>h14_5 (e1:=e1) (e2:=e2) hI hho (by omega) z hz
 have hz:=hz_5 (n:=n) ht (by omega)
 have ghqsE57_1:=lF hqsE57_1
 have ghqsE57_2:=eqI_true hqsE57_2
 have ghqsE522_1:=eqI_true hqsE522_1
 have ghqsE541_1:=lF hqsE541_1
 rcases bE (eqI (cdE n d q (cT P) P.length (List.take ((flt (mkB b) P.length).length * (0 + 1)) (List.drop 0 (cI (flt (mkB b) P.length)))) (flt (mkB b) P.length).length ((IntKind.i64.wrap p).tmod n) (List.take ((k + 1) * (0 + 1)) (List.drop 0 (cI (ouL (flt (mkB b) P.length) d ((IntKind.i64.wrap e1).tmod (((flt (mkB b) P.length).length:Nat):Int)) ((IntKind.i64.wrap e2).tmod (((flt (mkB b) P.length).length:Nat):Int)) (flt (mkB b) P.length).length)))) (k + 1)) 14) with hqsE543_1 | hqsE543_1
 ·skip
  have ghqsE543_1:=eqI_true hqsE543_1
  exact gL isR_e (gT cm (known_l55 hw) 200 (T':=⟨[(8,(.v (.bool .true)))],[],5,[]⟩) (e:=.ret) (ps:=[(n:Int)≠0,0 + (flt (mkB b) P.length).length * (0 + 1)≤((cI (flt (mkB b) P.length)):List AV).length,0 + (k + 1) * (0 + 1)≤((cI (ouL (flt (mkB b) P.length) d ((IntKind.i64.wrap e1).tmod (((flt (mkB b) P.length).length:Nat):Int)) ((IntKind.i64.wrap e2).tmod (((flt (mkB b) P.length).length:Nat):Int)) (flt (mkB b) P.length).length)):List AV).length,IsT P.length (cT P),IsC (0 + 1) (flt (mkB b) P.length).length (List.take ((flt (mkB b) P.length).length * (0 + 1)) (List.drop 0 (cI (flt (mkB b) P.length)))),IsC (0 + 1) (k + 1) (List.take ((k + 1) * (0 + 1)) (List.drop 0 (cI (ouL (flt (mkB b) P.length) d ((IntKind.i64.wrap e1).tmod (((flt (mkB b) P.length).length:Nat):Int)) ((IntKind.i64.wrap e2).tmod (((flt (mkB b) P.length).length:Nat):Int)) (flt (mkB b) P.length).length)))),(flt (mkB b) P.length).length≤1000,k + 1≤1000,eqI (cdE n d q (cT P) P.length (List.take ((flt (mkB b) P.length).length * (0 + 1)) (List.drop 0 (cI (flt (mkB b) P.length)))) (flt (mkB b) P.length).length ((IntKind.i64.wrap p).tmod n) (List.take ((k + 1) * (0 + 1)) (List.drop 0 (cI (ouL (flt (mkB b) P.length) d ((IntKind.i64.wrap e1).tmod (((flt (mkB b) P.length).length:Nat):Int)) ((IntKind.i64.wrap e2).tmod (((flt (mkB b) P.length).length:Nat):Int)) (flt (mkB b) P.length).length)))) (k + 1)) 14=true]) [.go,.go,.go,.go,.go,.go,.go,.go,.go,.go,.b true,.go,.go] (by kernel_rfl) (by kernel_rfl) ⟨(by omega),(by show _≤(cI _).length; rw [cI_len]; omega),(by show _≤(cI _).length; rw [cI_len,hc0]; omega),⟨P,rfl,rfl⟩,⟨rfl,_,takeL,rfl⟩,⟨rfl,_,takeO hc0,hc0.symm⟩,(by have:=flt_le (mkB b) P.length; omega),(by have:=ou_le (F:=(flt (mkB b) P.length)) (d:=d) (u:=((IntKind.i64.wrap e1).tmod (((flt (mkB b) P.length).length:Nat):Int))) (v:=((IntKind.i64.wrap e2).tmod (((flt (mkB b) P.length).length:Nat):Int))) (flt (mkB b) P.length).length; have:=flt_le (mkB b) P.length; omega),hqsE543_1,trivial⟩ rfl) (Hd.en_eq (r:=(.bool .true)) (by rfl) (Hd.en_ret (v:=(.v (.bool .true))) (by kernel_rfl) rfl))
 ·skip
  have ghqsE543_1:=eqI_false hqsE543_1
  exact absurd (show cdE n d q (cT P) P.length (List.take ((flt (mkB b) P.length).length * 1) (List.drop 0 (cI (flt (mkB b) P.length)))) (flt (mkB b) P.length).length ((IntKind.i64.wrap p).tmod n) (List.take ((k + 1) * 1) (List.drop 0 (cI (ouL (flt (mkB b) P.length) d ((IntKind.i64.wrap e1).tmod (((flt (mkB b) P.length).length:Nat):Int)) ((IntKind.i64.wrap e2).tmod (((flt (mkB b) P.length).length:Nat):Int)) (flt (mkB b) P.length).length)))) (k + 1)=14 from by have h8:=h14 _ hz; rw [takeO hc0,takeL]; rw [hc0] at h8; exact h8) (eqI_false hqsE543_1)
theorem sE5_40 (n:Nat) (d q:Int) (y:Value) (P:PL) (b e1 e2 p:Int) (hw:Known pg (clsO wkO)) (hb:0≤b∧b≤4294967295) (hu:0≤e1∧e1≤255) (hv0:0≤e2∧e2≤255) (ht:0≤p∧p≤255) (hE:roE n d q (cT P) P.length=0) (h0:0 < (flt (mkB b) P.length).length) (hv:(drV (cT P) q d (cI (flt (mkB b) P.length)) (flt (mkB b) P.length).length n)=n) (hqsE57_1:(ltI 30 P.length)=false) (hqsE57_2:(eqI (roE n d q (cT P) P.length) 0)=true) (hqsE522_1:(eqI (if hoB (cT P) q d (List.take ((flt (mkB b) P.length).length * (0 + 1)) (List.drop 0 (cI (flt (mkB b) P.length)))) (flt (mkB b) P.length).length n=true then 0 else 18) 0)=true) (hqsE522_2:(hoB (cT P) q d (List.take ((flt (mkB b) P.length).length * (0 + 1)) (List.drop 0 (cI (flt (mkB b) P.length)))) (flt (mkB b) P.length).length n)=true) (i k:Nat) (hi1:i≤(flt (mkB b) P.length).length) (hi2:True) (hc0:(ouL (flt (mkB b) P.length) d ((IntKind.i64.wrap e1).tmod (((flt (mkB b) P.length).length:Nat):Int)) ((IntKind.i64.wrap e2).tmod (((flt (mkB b) P.length).length:Nat):Int)) i).length=k + 1) (w:World) (hs:LN):Goes pg 129 sE5K35 (⟨[(3,(.v (.int .u8 (p)))),(4,(.ptr 0 0)),(6,(.ptr 1 0)),(qO6_37 P b),(15,(.slu 4 0 (k + 1) 0)),(16,(.v (.int .i64 i)))],[],5,[(qO6_33 P d n q y),(qO6_35 e1 e2),(qO6_38 P b),(4,(qO6_27 P b d e1 e2 i))]⟩) (BaseW.H w hs) (Hd.StepC pg 129 0 (fun i:{i:Nat // i≤(flt (mkB b) P.length).length∧True}=>(Ev.fam0 (⟨[(3,(.v (.int .u8 (p)))),(4,(.ptr 0 0)),(6,(.ptr 1 0)),(qO6_37 P b),qO6_40,(16,(.v (.int .i64 i.1)))],[],4,[(qO6_33 P d n q y),(qO6_35 e1 e2),(qO6_38 P b)]⟩:Ev.Lit) (fun k=>(⟨[(3,(.v (.int .u8 (p)))),(4,(.ptr 0 0)),(6,(.ptr 1 0)),(qO6_37 P b),(15,(.slu 4 0 (k + 1) 0)),(16,(.v (.int .i64 i.1)))],[],5,[(qO6_33 P d n q y),(qO6_35 e1 e2),(qO6_38 P b),(4,(.row (cI (ouL (flt (mkB b) P.length) d ((IntKind.i64.wrap e1).tmod (((flt (mkB b) P.length).length:Nat):Int)) ((IntKind.i64.wrap e2).tmod (((flt (mkB b) P.length).length:Nat):Int)) i.1)) 3 1))]⟩:Ev.Lit)) (ouL (flt (mkB b) P.length) d ((IntKind.i64.wrap e1).tmod (((flt (mkB b) P.length).length:Nat):Int)) ((IntKind.i64.wrap e2).tmod (((flt (mkB b) P.length).length:Nat):Int)) i.1).length)) (fun i:{i:Nat // i≤(flt (mkB b) P.length).length∧True}=>(flt (mkB b) P.length).length - i.1) sE5K27 w (OutH pg Try.f8 129 (.bool true) w) (⟨i,hi1,hi2⟩:{i:Nat // i≤(flt (mkB b) P.length).length∧True})):=by
 have hI:=icE_flt (st:=mkB b) hE
 obtain ⟨hm,⟨ha1,ha2,ha3⟩,hp0⟩:=roE_zero hE
 have hn:n≤1000:=by omega
 have hfl:=flt_24 (b:=b) hm
 have hho:=ho_v5 hv
 have h14:=fun z hz=>h14_5 (e1:=e1) (e2:=e2) hI hho (by omega) z hz
 have hz:=hz_5 (n:=n) ht (by omega)
 have ghqsE57_1:=lF hqsE57_1
 have ghqsE57_2:=eqI_true hqsE57_2
 have ghqsE522_1:=eqI_true hqsE522_1
 rcases bE (ltI i (((flt (mkB b) P.length).length:Nat):Int)) with hqsE541_1 | hqsE541_1
 ·skip
  have ghqsE541_1:=lT hqsE541_1
  rcases bE (ltI (((k + 1:Nat):Int)) d) with hqsE541_2 | hqsE541_2
  ·skip
   have ghqsE541_2:=lT hqsE541_2
   rcases bE (eqI i ((IntKind.i64.wrap e1).tmod (((flt (mkB b) P.length).length:Nat):Int))) with hqsE541_3 | hqsE541_3
   ·skip
    have ghqsE541_3:=eqI_true hqsE541_3
    exact gL isN_e (gC cm (known_l55 hw) 200 (T':=(qO6_5 P b d e1 e2 i k n p q y)) (e:=.normal) (m:=7) (ps:=[ltI i (((flt (mkB b) P.length).length:Nat):Int)=true,ltI (((k + 1:Nat):Int)) d=true,true=true,true=true,true=true,true=true,true=true,true=true,(((flt (mkB b) P.length).length:Nat):Int)≠0,true=true,true=true,eqI i ((IntKind.i64.wrap e1).tmod (((flt (mkB b) P.length).length:Nat):Int))=true,true=true,true=true,true=true,true=true,true=true,true=true,true=true,true=true,true=true,i < (flt (mkB b) P.length).length,loadL pg (cI (flt (mkB b) P.length)) (0 + i * 1) 3=some (.v (.int .i64 (intAt (cI (flt (mkB b) P.length)) (0 + i * 1)))),((cI (ouL (flt (mkB b) P.length) d ((IntKind.i64.wrap e1).tmod (((flt (mkB b) P.length).length:Nat):Int)) ((IntKind.i64.wrap e2).tmod (((flt (mkB b) P.length).length:Nat):Int)) i)):List AV).length=(k + 1) * 1,k + 1 + 1≤1000000,inR .i64 (((i:Nat):Int) + 1)]) [.go,.go,.go,.go,.b true,.go,.go,.go,.go,.go,.go,.b true,.go,.b true,.go,.b true,.go,.b true,.go,.b true,.go,.b true,.go,.b true,.go,.b true,.go,.b true,.go,.b true,.b true,.b true,.b true,.b true,.b true,.b true,.b true,.b true,.go,.go,.b true,.go,.go,.go,.sym,.sym,.go,.sym,.go,.go,.go,.go] [0,1,2,3,6] [(.v (.int .u8 (p))),(.ptr 0 0),(.ptr 1 0),(.slu 3 0 ((flt (mkB b) P.length).length) 0),(.slu 6 0 (k + 1 + 1) 0),(.v (.int .i64 (((i:Nat):Int) + 1)))] [(qO6_34 P d n q y),(qO6_36 e1 e2),(qO6_39 P b),(qO6_23 P b d e1 e2 i)] (by kernel_rfl) (by kernel_rfl) ⟨hqsE541_1,hqsE541_2,rfl,rfl,rfl,rfl,rfl,rfl,(by omega),rfl,rfl,hqsE541_3,rfl,rfl,rfl,rfl,rfl,rfl,rfl,rfl,rfl,(by omega),(by rw [Nat.mul_one]; exact cI_load (by omega) 3 (u3) rfl),(by show (cI _).length=_; rw [cI_len,hc0]; omega),(by have:=ou_le (F:=(flt (mkB b) P.length)) (d:=d) (u:=((IntKind.i64.wrap e1).tmod (((flt (mkB b) P.length).length:Nat):Int))) (v:=((IntKind.i64.wrap e2).tmod (((flt (mkB b) P.length).length:Nat):Int))) i; have:=flt_le (mkB b) P.length; omega),(iRO6 (by omega) (by omega)),trivial⟩ rfl rfl (by decide) rfl ⟨nr_v _,nr_ptr rfl,nr_ptr rfl,nr_slu rfl,nr_slu rfl,nr_int (show ((((i:Nat):Int) + 1):Int)=(((i + 1):Nat):Int) from by omega),trivial⟩ ⟨⟨by show 0 < 5; decide,nrb_cells (nrl_cons (nr_v _) (nrl_cons (nr_v _) (nrl_cons (nr_v _) (nrl_cons (nr_xl (nrl_plain (cT_plain P))) (nrl_nil)))))⟩,⟨by show 1 < 5; decide,nrb_cells (nrl_cons (nr_v _) (nrl_cons (nr_v _) (nrl_nil)))⟩,⟨by show 3 < 5; decide,nrb_row (nrl_plain (cI_plain _))⟩,⟨by show 4 < 5; decide,nrb_row (nrl_eq (show ((cI (ouL (flt (mkB b) P.length) d ((IntKind.i64.wrap e1).tmod (((flt (mkB b) P.length).length:Nat):Int)) ((IntKind.i64.wrap e2).tmod (((flt (mkB b) P.length).length:Nat):Int)) (i + 1))):List AV)=((cI (ouL (flt (mkB b) P.length) d ((IntKind.i64.wrap e1).tmod (((flt (mkB b) P.length).length:Nat):Int)) ((IntKind.i64.wrap e2).tmod (((flt (mkB b) P.length).length:Nat):Int)) i)) ++ [(.v (.int .i64 (intAt (cI (flt (mkB b) P.length)) (0 + i * 1))))]) from by (first | exact ou_rowT (by rw [hc0]; exact lT hqsE541_2) (.inl (eqI_true hqsE541_3)) | (rw [takeO hc0]; exact ou_rowT (by rw [hc0]; exact lT hqsE541_2) (.inl (eqI_true hqsE541_3))))) (cI_plain _))⟩,trivial⟩) (eO ⟨i + 1,by omega,trivial⟩ (by show (flt (mkB b) P.length).length - (i + 1) < (flt (mkB b) P.length).length - i; omega) (show ((qO6_5 P b d e1 e2 i k n p q y):Ev.Lit)=(Ev.fam0 ((qO6_13 P b d e1 e2 i n p q y):Ev.Lit) (fun k=>((qO6_6 P b d e1 e2 i k n p q y):Ev.Lit)) (ouL (flt (mkB b) P.length) d ((IntKind.i64.wrap e1).tmod (((flt (mkB b) P.length).length:Nat):Int)) ((IntKind.i64.wrap e2).tmod (((flt (mkB b) P.length).length:Nat):Int)) (i + 1)).length) from congrArg (Ev.fam0 ((qO6_13 P b d e1 e2 i n p q y):Ev.Lit) (fun k=>((qO6_6 P b d e1 e2 i k n p q y):Ev.Lit))) (show (k + 1 + 1:Nat)=(ouL (flt (mkB b) P.length) d ((IntKind.i64.wrap e1).tmod (((flt (mkB b) P.length).length:Nat):Int)) ((IntKind.i64.wrap e2).tmod (((flt (mkB b) P.length).length:Nat):Int)) (i + 1)).length from (show (ouL (flt (mkB b) P.length) d ((IntKind.i64.wrap e1).tmod (((flt (mkB b) P.length).length:Nat):Int)) ((IntKind.i64.wrap e2).tmod (((flt (mkB b) P.length).length:Nat):Int)) (i + 1)).length=k + 1 + 1 from by exact ou_lenT (by rw [hc0]; exact lT hqsE541_2) (.inl (eqI_true hqsE541_3)) hc0).symm)))
   ·skip
    have ghqsE541_3:=eqI_false hqsE541_3
    rcases bE (eqI i ((IntKind.i64.wrap e2).tmod (((flt (mkB b) P.length).length:Nat):Int))) with hqsE541_4 | hqsE541_4
    ·skip
     have ghqsE541_4:=eqI_true hqsE541_4
     exact gL isN_e (gC cm (known_l55 hw) 200 (T':=(qO6_5 P b d e1 e2 i k n p q y)) (e:=.normal) (m:=7) (ps:=[ltI i (((flt (mkB b) P.length).length:Nat):Int)=true,ltI (((k + 1:Nat):Int)) d=true,true=true,true=true,true=true,true=true,true=true,true=true,(((flt (mkB b) P.length).length:Nat):Int)≠0,true=true,true=true,eqI i ((IntKind.i64.wrap e1).tmod (((flt (mkB b) P.length).length:Nat):Int))=false,false=false,false=false,false=false,false=false,false=false,false=false,(((flt (mkB b) P.length).length:Nat):Int)≠0,false=false,true=true,eqI i ((IntKind.i64.wrap e2).tmod (((flt (mkB b) P.length).length:Nat):Int))=true,i < (flt (mkB b) P.length).length,loadL pg (cI (flt (mkB b) P.length)) (0 + i * 1) 3=some (.v (.int .i64 (intAt (cI (flt (mkB b) P.length)) (0 + i * 1)))),((cI (ouL (flt (mkB b) P.length) d ((IntKind.i64.wrap e1).tmod (((flt (mkB b) P.length).length:Nat):Int)) ((IntKind.i64.wrap e2).tmod (((flt (mkB b) P.length).length:Nat):Int)) i)):List AV).length=(k + 1) * 1,k + 1 + 1≤1000000,inR .i64 (((i:Nat):Int) + 1)]) [.go,.go,.go,.go,.b true,.go,.go,.go,.go,.go,.go,.b true,.go,.b true,.go,.b true,.go,.b true,.go,.b true,.go,.b true,.go,.b true,.go,.b true,.go,.b true,.go,.b false,.go,.b false,.go,.b false,.go,.b false,.go,.b false,.go,.b false,.go,.b false,.go,.b false,.go,.b true,.go,.go,.b true,.go,.go,.go,.sym,.sym,.go,.sym,.go,.go,.go,.go] [0,1,2,3,6] [(.v (.int .u8 (p))),(.ptr 0 0),(.ptr 1 0),(.slu 3 0 ((flt (mkB b) P.length).length) 0),(.slu 6 0 (k + 1 + 1) 0),(.v (.int .i64 (((i:Nat):Int) + 1)))] [(qO6_34 P d n q y),(qO6_36 e1 e2),(qO6_39 P b),(qO6_23 P b d e1 e2 i)] (by kernel_rfl) (by kernel_rfl) ⟨hqsE541_1,hqsE541_2,rfl,rfl,rfl,rfl,rfl,rfl,(by omega),rfl,rfl,hqsE541_3,rfl,rfl,rfl,rfl,rfl,rfl,(by omega),rfl,rfl,hqsE541_4,(by omega),(by rw [Nat.mul_one]; exact cI_load (by omega) 3 (u3) rfl),(by show (cI _).length=_; rw [cI_len,hc0]; omega),(by have:=ou_le (F:=(flt (mkB b) P.length)) (d:=d) (u:=((IntKind.i64.wrap e1).tmod (((flt (mkB b) P.length).length:Nat):Int))) (v:=((IntKind.i64.wrap e2).tmod (((flt (mkB b) P.length).length:Nat):Int))) i; have:=flt_le (mkB b) P.length; omega),(iRO6 (by omega) (by omega)),trivial⟩ rfl rfl (by decide) rfl ⟨nr_v _,nr_ptr rfl,nr_ptr rfl,nr_slu rfl,nr_slu rfl,nr_int (show ((((i:Nat):Int) + 1):Int)=(((i + 1):Nat):Int) from by omega),trivial⟩ ⟨⟨by show 0 < 5; decide,nrb_cells (nrl_cons (nr_v _) (nrl_cons (nr_v _) (nrl_cons (nr_v _) (nrl_cons (nr_xl (nrl_plain (cT_plain P))) (nrl_nil)))))⟩,⟨by show 1 < 5; decide,nrb_cells (nrl_cons (nr_v _) (nrl_cons (nr_v _) (nrl_nil)))⟩,⟨by show 3 < 5; decide,nrb_row (nrl_plain (cI_plain _))⟩,⟨by show 4 < 5; decide,nrb_row (nrl_eq (show ((cI (ouL (flt (mkB b) P.length) d ((IntKind.i64.wrap e1).tmod (((flt (mkB b) P.length).length:Nat):Int)) ((IntKind.i64.wrap e2).tmod (((flt (mkB b) P.length).length:Nat):Int)) (i + 1))):List AV)=((cI (ouL (flt (mkB b) P.length) d ((IntKind.i64.wrap e1).tmod (((flt (mkB b) P.length).length:Nat):Int)) ((IntKind.i64.wrap e2).tmod (((flt (mkB b) P.length).length:Nat):Int)) i)) ++ [(.v (.int .i64 (intAt (cI (flt (mkB b) P.length)) (0 + i * 1))))]) from by (first | exact ou_rowT (by rw [hc0]; exact lT hqsE541_2) (.inr (eqI_true hqsE541_4)) | (rw [takeO hc0]; exact ou_rowT (by rw [hc0]; exact lT hqsE541_2) (.inr (eqI_true hqsE541_4))))) (cI_plain _))⟩,trivial⟩) (eO ⟨i + 1,by omega,trivial⟩ (by show (flt (mkB b) P.length).length - (i + 1) < (flt (mkB b) P.length).length - i; omega) (show ((qO6_5 P b d e1 e2 i k n p q y):Ev.Lit)=(Ev.fam0 ((qO6_13 P b d e1 e2 i n p q y):Ev.Lit) (fun k=>((qO6_6 P b d e1 e2 i k n p q y):Ev.Lit)) (ouL (flt (mkB b) P.length) d ((IntKind.i64.wrap e1).tmod (((flt (mkB b) P.length).length:Nat):Int)) ((IntKind.i64.wrap e2).tmod (((flt (mkB b) P.length).length:Nat):Int)) (i + 1)).length) from congrArg (Ev.fam0 ((qO6_13 P b d e1 e2 i n p q y):Ev.Lit) (fun k=>((qO6_6 P b d e1 e2 i k n p q y):Ev.Lit))) (show (k + 1 + 1:Nat)=(ouL (flt (mkB b) P.length) d ((IntKind.i64.wrap e1).tmod (((flt (mkB b) P.length).length:Nat):Int)) ((IntKind.i64.wrap e2).tmod (((flt (mkB b) P.length).length:Nat):Int)) (i + 1)).length from (show (ouL (flt (mkB b) P.length) d ((IntKind.i64.wrap e1).tmod (((flt (mkB b) P.length).length:Nat):Int)) ((IntKind.i64.wrap e2).tmod (((flt (mkB b) P.length).length:Nat):Int)) (i + 1)).length=k + 1 + 1 from by exact ou_lenT (by rw [hc0]; exact lT hqsE541_2) (.inr (eqI_true hqsE541_4)) hc0).symm)))
    ·skip
     have ghqsE541_4:=eqI_false hqsE541_4
     exact gL isN_e (gC cm (known_l55 hw) 200 (T':=(qO6_6 P b d e1 e2 i k n p q y)) (e:=.normal) (m:=5) (ps:=[ltI i (((flt (mkB b) P.length).length:Nat):Int)=true,ltI (((k + 1:Nat):Int)) d=true,true=true,true=true,true=true,true=true,true=true,true=true,(((flt (mkB b) P.length).length:Nat):Int)≠0,true=true,true=true,eqI i ((IntKind.i64.wrap e1).tmod (((flt (mkB b) P.length).length:Nat):Int))=false,false=false,false=false,false=false,false=false,false=false,false=false,(((flt (mkB b) P.length).length:Nat):Int)≠0,false=false,true=true,eqI i ((IntKind.i64.wrap e2).tmod (((flt (mkB b) P.length).length:Nat):Int))=false,inR .i64 (((i:Nat):Int) + 1)]) [.go,.go,.go,.go,.b true,.go,.go,.go,.go,.go,.go,.b true,.go,.b true,.go,.b true,.go,.b true,.go,.b true,.go,.b true,.go,.b true,.go,.b true,.go,.b true,.go,.b false,.go,.b false,.go,.b false,.go,.b false,.go,.b false,.go,.b false,.go,.b false,.go,.b false,.go,.b true,.go,.go,.b false,.go,.go,.go] [0,1,2,3,4] [(.v (.int .u8 (p))),(.ptr 0 0),(.ptr 1 0),(.slu 3 0 ((flt (mkB b) P.length).length) 0),(.slu 4 0 (k + 1) 0),(.v (.int .i64 (((i:Nat):Int) + 1)))] [(qO6_34 P d n q y),(qO6_36 e1 e2),(qO6_39 P b),(qO6_27 P b d e1 e2 i)] (by kernel_rfl) (by kernel_rfl) ⟨hqsE541_1,hqsE541_2,rfl,rfl,rfl,rfl,rfl,rfl,(by omega),rfl,rfl,hqsE541_3,rfl,rfl,rfl,rfl,rfl,rfl,(by omega),rfl,rfl,hqsE541_4,(iRO6 (by omega) (by omega)),trivial⟩ rfl rfl (by decide) rfl ⟨nr_v _,nr_ptr rfl,nr_ptr rfl,nr_slu rfl,nr_slu rfl,nr_int (show ((((i:Nat):Int) + 1):Int)=(((i + 1):Nat):Int) from by omega),trivial⟩ ⟨⟨by show 0 < 5; decide,nrb_cells (nrl_cons (nr_v _) (nrl_cons (nr_v _) (nrl_cons (nr_v _) (nrl_cons (nr_xl (nrl_plain (cT_plain P))) (nrl_nil)))))⟩,⟨by show 1 < 5; decide,nrb_cells (nrl_cons (nr_v _) (nrl_cons (nr_v _) (nrl_nil)))⟩,⟨by show 3 < 5; decide,nrb_row (nrl_plain (cI_plain _))⟩,⟨by show 4 < 5; decide,nrb_row (nrl_eq (show ((cI (ouL (flt (mkB b) P.length) d ((IntKind.i64.wrap e1).tmod (((flt (mkB b) P.length).length:Nat):Int)) ((IntKind.i64.wrap e2).tmod (((flt (mkB b) P.length).length:Nat):Int)) (i + 1))):List AV)=(cI (ouL (flt (mkB b) P.length) d ((IntKind.i64.wrap e1).tmod (((flt (mkB b) P.length).length:Nat):Int)) ((IntKind.i64.wrap e2).tmod (((flt (mkB b) P.length).length:Nat):Int)) i)) from by (rw [ou_rowF (fun h9=>h9.2.elim (eqI_false hqsE541_3) (eqI_false hqsE541_4))])) (cI_plain _))⟩,trivial⟩) (eO ⟨i + 1,by omega,trivial⟩ (by show (flt (mkB b) P.length).length - (i + 1) < (flt (mkB b) P.length).length - i; omega) (show ((qO6_6 P b d e1 e2 i k n p q y):Ev.Lit)=(Ev.fam0 ((qO6_13 P b d e1 e2 i n p q y):Ev.Lit) (fun k=>((qO6_6 P b d e1 e2 i k n p q y):Ev.Lit)) (ouL (flt (mkB b) P.length) d ((IntKind.i64.wrap e1).tmod (((flt (mkB b) P.length).length:Nat):Int)) ((IntKind.i64.wrap e2).tmod (((flt (mkB b) P.length).length:Nat):Int)) (i + 1)).length) from congrArg (Ev.fam0 ((qO6_13 P b d e1 e2 i n p q y):Ev.Lit) (fun k=>((qO6_6 P b d e1 e2 i k n p q y):Ev.Lit))) (show (k + 1:Nat)=(ouL (flt (mkB b) P.length) d ((IntKind.i64.wrap e1).tmod (((flt (mkB b) P.length).length:Nat):Int)) ((IntKind.i64.wrap e2).tmod (((flt (mkB b) P.length).length:Nat):Int)) (i + 1)).length from (show (ouL (flt (mkB b) P.length) d ((IntKind.i64.wrap e1).tmod (((flt (mkB b) P.length).length:Nat):Int)) ((IntKind.i64.wrap e2).tmod (((flt (mkB b) P.length).length:Nat):Int)) (i + 1)).length=k + 1 from by exact ou_lenF (fun h9=>h9.2.elim (eqI_false hqsE541_3) (eqI_false hqsE541_4)) hc0).symm)))
  ·skip
   have ghqsE541_2:=lF hqsE541_2
   exact gL isN_e (gC cm (known_l55 hw) 200 (T':=(qO6_6 P b d e1 e2 i k n p q y)) (e:=.normal) (m:=5) (ps:=[ltI i (((flt (mkB b) P.length).length:Nat):Int)=true,ltI (((k + 1:Nat):Int)) d=false,false=false,false=false,false=false,false=false,false=false,false=false,false=false,false=false,false=false,false=false,inR .i64 (((i:Nat):Int) + 1)]) [.go,.go,.go,.go,.b true,.go,.go,.go,.go,.go,.go,.b false,.b false,.b false,.b false,.b false,.b false,.b false,.b false,.b false,.b false,.go,.b false,.go,.go,.go] [0,1,2,3,4] [(.v (.int .u8 (p))),(.ptr 0 0),(.ptr 1 0),(.slu 3 0 ((flt (mkB b) P.length).length) 0),(.slu 4 0 (k + 1) 0),(.v (.int .i64 (((i:Nat):Int) + 1)))] [(qO6_34 P d n q y),(qO6_36 e1 e2),(qO6_39 P b),(qO6_27 P b d e1 e2 i)] (by kernel_rfl) (by kernel_rfl) ⟨hqsE541_1,hqsE541_2,rfl,rfl,rfl,rfl,rfl,rfl,rfl,rfl,rfl,rfl,(iRO6 (by omega) (by omega)),trivial⟩ rfl rfl (by decide) rfl ⟨nr_v _,nr_ptr rfl,nr_ptr rfl,nr_slu rfl,nr_slu rfl,nr_int (show ((((i:Nat):Int) + 1):Int)=(((i + 1):Nat):Int) from by omega),trivial⟩ ⟨⟨by show 0 < 5; decide,nrb_cells (nrl_cons (nr_v _) (nrl_cons (nr_v _) (nrl_cons (nr_v _) (nrl_cons (nr_xl (nrl_plain (cT_plain P))) (nrl_nil)))))⟩,⟨by show 1 < 5; decide,nrb_cells (nrl_cons (nr_v _) (nrl_cons (nr_v _) (nrl_nil)))⟩,⟨by show 3 < 5; decide,nrb_row (nrl_plain (cI_plain _))⟩,⟨by show 4 < 5; decide,nrb_row (nrl_eq (show ((cI (ouL (flt (mkB b) P.length) d ((IntKind.i64.wrap e1).tmod (((flt (mkB b) P.length).length:Nat):Int)) ((IntKind.i64.wrap e2).tmod (((flt (mkB b) P.length).length:Nat):Int)) (i + 1))):List AV)=(cI (ouL (flt (mkB b) P.length) d ((IntKind.i64.wrap e1).tmod (((flt (mkB b) P.length).length:Nat):Int)) ((IntKind.i64.wrap e2).tmod (((flt (mkB b) P.length).length:Nat):Int)) i)) from by (rw [ou_rowF (fun h9=>by have h7:=lF hqsE541_2; have h8:=h9.1; rw [hc0] at h8; omega)])) (cI_plain _))⟩,trivial⟩) (eO ⟨i + 1,by omega,trivial⟩ (by show (flt (mkB b) P.length).length - (i + 1) < (flt (mkB b) P.length).length - i; omega) (show ((qO6_6 P b d e1 e2 i k n p q y):Ev.Lit)=(Ev.fam0 ((qO6_13 P b d e1 e2 i n p q y):Ev.Lit) (fun k=>((qO6_6 P b d e1 e2 i k n p q y):Ev.Lit)) (ouL (flt (mkB b) P.length) d ((IntKind.i64.wrap e1).tmod (((flt (mkB b) P.length).length:Nat):Int)) ((IntKind.i64.wrap e2).tmod (((flt (mkB b) P.length).length:Nat):Int)) (i + 1)).length) from congrArg (Ev.fam0 ((qO6_13 P b d e1 e2 i n p q y):Ev.Lit) (fun k=>((qO6_6 P b d e1 e2 i k n p q y):Ev.Lit))) (show (k + 1:Nat)=(ouL (flt (mkB b) P.length) d ((IntKind.i64.wrap e1).tmod (((flt (mkB b) P.length).length:Nat):Int)) ((IntKind.i64.wrap e2).tmod (((flt (mkB b) P.length).length:Nat):Int)) (i + 1)).length from (show (ouL (flt (mkB b) P.length) d ((IntKind.i64.wrap e1).tmod (((flt (mkB b) P.length).length:Nat):Int)) ((IntKind.i64.wrap e2).tmod (((flt (mkB b) P.length).length:Nat):Int)) (i + 1)).length=k + 1 from by exact ou_lenF (fun h9=>by have h7:=lF hqsE541_2; have h8:=h9.1; rw [hc0] at h8; omega) hc0).symm)))
 ·skip
  have ghqsE541_1:=lF hqsE541_1
  obtain rfl:i=(flt (mkB b) P.length).length:=by omega
  exact gL isX_e (gT cm (known_l55 hw) 200 (T':=(qO6_10 P b d e1 e2 k n p q y)) (e:=.exit 0) (ps:=[ltI (((flt (mkB b) P.length).length:Nat):Int) (((flt (mkB b) P.length).length:Nat):Int)=false]) [.go,.go,.go,.go,.b false] (by kernel_rfl) (by kernel_rfl) ⟨hqsE541_1,trivial⟩ rfl) (Hd.en_sx (sE5_42 n d q y P b e1 e2 p hw hb hu hv0 ht hE h0 hv hqsE57_1 hqsE57_2 hqsE522_1 hqsE522_2 hi2 k hc0 hqsE541_1 w hs))
theorem sE5_34 (n:Nat) (d q:Int) (y:Value) (P:PL) (b e1 e2 p:Int) (hw:Known pg (clsO wkO)) (hb:0≤b∧b≤4294967295) (hu:0≤e1∧e1≤255) (hv0:0≤e2∧e2≤255) (ht:0≤p∧p≤255) (hE:roE n d q (cT P) P.length=0) (h0:0 < (flt (mkB b) P.length).length) (hv:(drV (cT P) q d (qO6_41 P b) (flt (mkB b) P.length).length n)=n) (hqsE57_1:(ltI 30 P.length)=false) (hqsE57_2:(eqI (roE n d q (cT P) P.length) 0)=true) (hqsE522_1:(eqI (if hoB (cT P) q d (List.take ((flt (mkB b) P.length).length * (0 + 1)) (List.drop 0 (qO6_41 P b))) (flt (mkB b) P.length).length n=true then 0 else 18) 0)=true) (hqsE522_2:(hoB (cT P) q d (List.take ((flt (mkB b) P.length).length * (0 + 1)) (List.drop 0 (qO6_41 P b))) (flt (mkB b) P.length).length n)=true) (w:World) (hs:LN):Goes pg 129 sE5K30 ((qO6_14 P b d e1 e2 n p q y)) (BaseW.H w hs) (Hd.AfterN pg 129 sE5K27 w (OutH pg Try.f8 129 (.bool true) w)):=by
 have hI:=icE_flt (st:=mkB b) hE
 obtain ⟨hm,⟨ha1,ha2,ha3⟩,hp0⟩:=roE_zero hE
 have hn:n≤1000:=by omega
 have hfl:=flt_24 (b:=b) hm
 have hho:=ho_v5 hv
 have h14:=fun z hz=>h14_5 (e1:=e1) (e2:=e2) hI hho (by omega) z hz
 have hz:=hz_5 (n:=n) ht (by omega)
 have ghqsE57_1:=lF hqsE57_1
 have ghqsE57_2:=eqI_true hqsE57_2
 have ghqsE522_1:=eqI_true hqsE522_1
 exact Hd.goes_loopA (id:=0) (by kernel_rfl) (by kernel_rfl) (fun i:{i:Nat // i≤(flt (mkB b) P.length).length∧True}=>(Ev.fam0 (⟨[(3,(.v (.int .u8 (p)))),(4,(.ptr 0 0)),(6,(.ptr 1 0)),(qO6_37 P b),qO6_40,(16,(.v (.int .i64 i.1)))],[],4,[(qO6_33 P d n q y),(qO6_35 e1 e2),(qO6_38 P b)]⟩:Ev.Lit) (fun k=>(⟨[(3,(.v (.int .u8 (p)))),(4,(.ptr 0 0)),(6,(.ptr 1 0)),(qO6_37 P b),(15,(.slu 4 0 (k + 1) 0)),(16,(.v (.int .i64 i.1)))],[],5,[(qO6_33 P d n q y),(qO6_35 e1 e2),(qO6_38 P b),(4,(.row (cI (ouL (flt (mkB b) P.length) d ((IntKind.i64.wrap e1).tmod (((flt (mkB b) P.length).length:Nat):Int)) ((IntKind.i64.wrap e2).tmod (((flt (mkB b) P.length).length:Nat):Int)) i.1)) 3 1))]⟩:Ev.Lit)) (ouL (flt (mkB b) P.length) d ((IntKind.i64.wrap e1).tmod (((flt (mkB b) P.length).length:Nat):Int)) ((IntKind.i64.wrap e2).tmod (((flt (mkB b) P.length).length:Nat):Int)) i.1).length)) (fun i:{i:Nat // i≤(flt (mkB b) P.length).length∧True}=>(flt (mkB b) P.length).length - i.1) (fun ix_ hs=>match ix_ with | ⟨i,hi1,hi2⟩=>fam0_goesK (P:=(fun t_=>Goes pg 129 sE5K35 t_ (BaseW.H w hs) (Hd.StepC pg 129 0 (fun i:{i:Nat // i≤(flt (mkB b) P.length).length∧True}=>(Ev.fam0 (⟨[(3,(.v (.int .u8 (p)))),(4,(.ptr 0 0)),(6,(.ptr 1 0)),(qO6_37 P b),qO6_40,(16,(.v (.int .i64 i.1)))],[],4,[(qO6_33 P d n q y),(qO6_35 e1 e2),(qO6_38 P b)]⟩:Ev.Lit) (fun k=>(⟨[(3,(.v (.int .u8 (p)))),(4,(.ptr 0 0)),(6,(.ptr 1 0)),(qO6_37 P b),(15,(.slu 4 0 (k + 1) 0)),(16,(.v (.int .i64 i.1)))],[],5,[(qO6_33 P d n q y),(qO6_35 e1 e2),(qO6_38 P b),(4,(.row (cI (ouL (flt (mkB b) P.length) d ((IntKind.i64.wrap e1).tmod (((flt (mkB b) P.length).length:Nat):Int)) ((IntKind.i64.wrap e2).tmod (((flt (mkB b) P.length).length:Nat):Int)) i.1)) 3 1))]⟩:Ev.Lit)) (ouL (flt (mkB b) P.length) d ((IntKind.i64.wrap e1).tmod (((flt (mkB b) P.length).length:Nat):Int)) ((IntKind.i64.wrap e2).tmod (((flt (mkB b) P.length).length:Nat):Int)) i.1).length)) (fun i:{i:Nat // i≤(flt (mkB b) P.length).length∧True}=>(flt (mkB b) P.length).length - i.1) sE5K27 w (OutH pg Try.f8 129 (.bool true) w) (⟨i,hi1,hi2⟩:{i:Nat // i≤(flt (mkB b) P.length).length∧True})))) (fun hc0=>sE5_36 n d q y P b e1 e2 p hw hb hu hv0 ht hE h0 hv hqsE57_1 hqsE57_2 hqsE522_1 hqsE522_2 i hi1 hi2 hc0 w hs) (fun k hc0=>sE5_40 n d q y P b e1 e2 p hw hb hu hv0 ht hE h0 hv hqsE57_1 hqsE57_2 hqsE522_1 hqsE522_2 i k hi1 hi2 hc0 w hs)) ⟨0,Nat.zero_le _,trivial⟩ hs
theorem sE5_32 (n:Nat) (d q:Int) (y:Value) (P:PL) (b e1 e2 p:Int) (hw:Known pg (clsO wkO)) (hb:0≤b∧b≤4294967295) (hu:0≤e1∧e1≤255) (hv0:0≤e2∧e2≤255) (ht:0≤p∧p≤255) (hE:roE n d q (cT P) P.length=0) (h0:0 < (flt (mkB b) P.length).length) (hv:(drV (cT P) q d (qO6_41 P b) (flt (mkB b) P.length).length n)=n) (hqsE57_1:(ltI 30 P.length)=false) (hqsE57_2:(eqI (roE n d q (cT P) P.length) 0)=true) (hqsE522_1:(eqI (if hoB (cT P) q d (List.take ((flt (mkB b) P.length).length * (0 + 1)) (List.drop 0 (qO6_41 P b))) (flt (mkB b) P.length).length n=true then 0 else 18) 0)=true) (hqsE522_2:(hoB (cT P) q d (List.take ((flt (mkB b) P.length).length * (0 + 1)) (List.drop 0 (qO6_41 P b))) (flt (mkB b) P.length).length n)=true) (w:World) (hs:LN):Goes pg 129 sE5K30 ((qO6_14 P b d e1 e2 n p q y)) (BaseW.H w hs) (Hd.AfterN pg 129 sE5K27 w (OutH pg Try.f8 129 (.bool true) w)):=by
 exact sE5_34 n d q y P b e1 e2 p hw hb hu hv0 ht hE h0 hv hqsE57_1 hqsE57_2 hqsE522_1 hqsE522_2 w hs
theorem sE5_29 (n:Nat) (d q:Int) (y:Value) (P:PL) (b e1 e2 p:Int) (hw:Known pg (clsO wkO)) (hb:0≤b∧b≤4294967295) (hu:0≤e1∧e1≤255) (hv0:0≤e2∧e2≤255) (ht:0≤p∧p≤255) (hE:roE n d q (cT P) P.length=0) (h0:0 < (flt (mkB b) P.length).length) (hv:(drV (cT P) q d (qO6_41 P b) (flt (mkB b) P.length).length n)=n) (hqsE57_1:(ltI 30 P.length)=false) (hqsE57_2:(eqI (roE n d q (cT P) P.length) 0)=true) (hqsE522_1:(eqI (if hoB (cT P) q d (List.take ((flt (mkB b) P.length).length * (0 + 1)) (List.drop 0 (qO6_41 P b))) (flt (mkB b) P.length).length n=true then 0 else 18) 0)=true) (hqsE522_2:(hoB (cT P) q d (List.take ((flt (mkB b) P.length).length * (0 + 1)) (List.drop 0 (qO6_41 P b))) (flt (mkB b) P.length).length n)=true) (w:World) (hs:LN):Goes pg 129 sE5K28 ((qO6_16 P b d e1 e2 n p q y)) (BaseW.H w hs) (Hd.AfterN pg 129 sE5K27 w (OutH pg Try.f8 129 (.bool true) w)):=by
 have hI:=icE_flt (st:=mkB b) hE
 obtain ⟨hm,⟨ha1,ha2,ha3⟩,hp0⟩:=roE_zero hE
 have hn:n≤1000:=by omega
 have hfl:=flt_24 (b:=b) hm
 have hho:=ho_v5 hv
 have h14:=fun z hz=>h14_5 (e1:=e1) (e2:=e2) hI hho (by omega) z hz
 have hz:=hz_5 (n:=n) ht (by omega)
 have ghqsE57_1:=lF hqsE57_1
 have ghqsE57_2:=eqI_true hqsE57_2
 have ghqsE522_1:=eqI_true hqsE522_1
 refine gS (by kernel_rfl) ?_
 exact gL isN_e (gT cm (known_l55 hw) 200 (T':=(qO6_14 P b d e1 e2 n p q y)) (e:=.normal) (ps:=[]) [.go] (by kernel_rfl) (by kernel_rfl) trivial rfl) (Hd.en_n (sE5_32 n d q y P b e1 e2 p hw hb hu hv0 ht hE h0 hv hqsE57_1 hqsE57_2 hqsE522_1 hqsE522_2 w hs))
theorem sE5_26 (n:Nat) (d q:Int) (y:Value) (P:PL) (b e1 e2 p:Int) (hw:Known pg (clsO wkO)) (hb:0≤b∧b≤4294967295) (hu:0≤e1∧e1≤255) (hv0:0≤e2∧e2≤255) (ht:0≤p∧p≤255) (hE:roE n d q (cT P) P.length=0) (h0:0 < (flt (mkB b) P.length).length) (hv:(drV (cT P) q d (qO6_41 P b) (flt (mkB b) P.length).length n)=n) (hqsE57_1:(ltI 30 P.length)=false) (hqsE57_2:(eqI (roE n d q (cT P) P.length) 0)=true) (hqsE522_1:(eqI (if hoB (cT P) q d (List.take ((flt (mkB b) P.length).length * (0 + 1)) (List.drop 0 (qO6_41 P b))) (flt (mkB b) P.length).length n=true then 0 else 18) 0)=true) (hqsE522_2:(hoB (cT P) q d (List.take ((flt (mkB b) P.length).length * (0 + 1)) (List.drop 0 (qO6_41 P b))) (flt (mkB b) P.length).length n)=true) (w:World) (hs:LN):Goes pg 129 sE5K24 ((qO6_16 P b d e1 e2 n p q y)) (BaseW.H w hs) (OutH pg Try.f8 129 (.bool true) w):=by
 exact gS (by kernel_rfl) (sE5_29 n d q y P b e1 e2 p hw hb hu hv0 ht hE h0 hv hqsE57_1 hqsE57_2 hqsE522_1 hqsE522_2 w hs)
theorem sE5_23 (n:Nat) (d q:Int) (y:Value) (P:PL) (b e1 e2 p:Int) (hw:Known pg (clsO wkO)) (hb:0≤b∧b≤4294967295) (hu:0≤e1∧e1≤255) (hv0:0≤e2∧e2≤255) (ht:0≤p∧p≤255) (hE:roE n d q (cT P) P.length=0) (h0:0 < (flt (mkB b) P.length).length) (hv:(drV (cT P) q d (qO6_41 P b) (flt (mkB b) P.length).length n)=n) (hqsE57_1:(ltI 30 P.length)=false) (hqsE57_2:(eqI (roE n d q (cT P) P.length) 0)=true) (hqsE522_1:(eqI (if hoB (cT P) q d (List.take ((flt (mkB b) P.length).length * (0 + 1)) (List.drop 0 (qO6_41 P b))) (flt (mkB b) P.length).length n=true then 0 else 18) 0)=true) (hqsE522_2:(hoB (cT P) q d (List.take ((flt (mkB b) P.length).length * (0 + 1)) (List.drop 0 (qO6_41 P b))) (flt (mkB b) P.length).length n)=true) (w:World) (hs:LN):Goes pg 129 sE5K21 ((qO6_17 P b d e1 e2 n p q y)) (BaseW.H w hs) (OutH pg Try.f8 129 (.bool true) w):=by
 have hI:=icE_flt (st:=mkB b) hE
 obtain ⟨hm,⟨ha1,ha2,ha3⟩,hp0⟩:=roE_zero hE
 have hn:n≤1000:=by omega
 have hfl:=flt_24 (b:=b) hm
 have hho:=ho_v5 hv
 have h14:=fun z hz=>h14_5 (e1:=e1) (e2:=e2) hI hho (by omega) z hz
 have hz:=hz_5 (n:=n) ht (by omega)
 have ghqsE57_1:=lF hqsE57_1
 have ghqsE57_2:=eqI_true hqsE57_2
 have ghqsE522_1:=eqI_true hqsE522_1
 refine gS (by kernel_rfl) ?_
 exact gL isN_e (gT cm (known_l55 hw) 200 (T':=(qO6_16 P b d e1 e2 n p q y)) (e:=.normal) (ps:=[]) [.go] (by kernel_rfl) (by kernel_rfl) trivial rfl) (Hd.en_n (sE5_26 n d q y P b e1 e2 p hw hb hu hv0 ht hE h0 hv hqsE57_1 hqsE57_2 hqsE522_1 hqsE522_2 w hs))
theorem sE5_20 (n:Nat) (d q:Int) (y:Value) (P:PL) (b e1 e2 p:Int) (hw:Known pg (clsO wkO)) (hb:0≤b∧b≤4294967295) (hu:0≤e1∧e1≤255) (hv0:0≤e2∧e2≤255) (ht:0≤p∧p≤255) (hE:roE n d q (cT P) P.length=0) (h0:0 < (flt (mkB b) P.length).length) (hv:(drV (cT P) q d (qO6_41 P b) (flt (mkB b) P.length).length n)=n) (hqsE57_1:(ltI 30 P.length)=false) (hqsE57_2:(eqI (roE n d q (cT P) P.length) 0)=true) (w:World) (hs:LN):Goes pg 129 sE5K18 ((qO6_9 P b d e1 e2 n p q y)) (BaseW.H w hs) (OutH pg Try.f8 129 (.bool true) w):=by
 have hI:=icE_flt (st:=mkB b) hE
 obtain ⟨hm,⟨ha1,ha2,ha3⟩,hp0⟩:=roE_zero hE
 have hn:n≤1000:=by omega
 have hfl:=flt_24 (b:=b) hm
 have hho:=ho_v5 hv
 have h14:=fun z hz=>h14_5 (e1:=e1) (e2:=e2) hI hho (by omega) z hz
 have hz:=hz_5 (n:=n) ht (by omega)
 have ghqsE57_1:=lF hqsE57_1
 have ghqsE57_2:=eqI_true hqsE57_2
 refine gS (by kernel_rfl) ?_
 rcases bE (eqI (if hoB (cT P) q d (List.take ((flt (mkB b) P.length).length * (0 + 1)) (List.drop 0 (qO6_41 P b))) (flt (mkB b) P.length).length n=true then 0 else 18) 0) with hqsE522_1 | hqsE522_1
 ·skip
  have ghqsE522_1:=eqI_true hqsE522_1
  rcases bE (hoB (cT P) q d (List.take ((flt (mkB b) P.length).length * (0 + 1)) (List.drop 0 (qO6_41 P b))) (flt (mkB b) P.length).length n) with hqsE522_2 | hqsE522_2
  ·skip
   exact gL isN_e (gT cm (known_l55 hw) 200 (T':=(qO6_17 P b d e1 e2 n p q y)) (e:=.normal) (ps:=[(!eqI ((5:Int)) 5)=false,false=false,(!eqI (if hoB (cT P) q d (List.take ((flt (mkB b) P.length).length * (0 + 1)) (List.drop 0 (qO6_41 P b))) (flt (mkB b) P.length).length n=true then 0 else 18) 0)=false,false=false,false=false,0 + (flt (mkB b) P.length).length * (0 + 1)≤((qO6_41 P b):List AV).length,IsT P.length (cT P),IsC (0 + 1) (flt (mkB b) P.length).length (List.take ((flt (mkB b) P.length).length * (0 + 1)) (List.drop 0 (qO6_41 P b))),icE n d q (cT P) P.length (List.take ((flt (mkB b) P.length).length * (0 + 1)) (List.drop 0 (qO6_41 P b))) (flt (mkB b) P.length).length=0,(flt (mkB b) P.length).length≤1000,false=false,(!hoB (cT P) q d (List.take ((flt (mkB b) P.length).length * (0 + 1)) (List.drop 0 (qO6_41 P b))) (flt (mkB b) P.length).length n)=false]) [.go,.go,.go,.b false,.go,.b false,.go,.go,.go,.b false,.go,.b false,.go,.b false,.b false,.go,.go,.b false] (by kernel_rfl) (by kernel_rfl) ⟨rfl,rfl,(by rw [hqsE522_1]; rfl),rfl,rfl,(by show _≤(cI _).length; rw [cI_len]; omega),⟨P,rfl,rfl⟩,⟨rfl,_,takeL,rfl⟩,(by rw [takeL]; exact hI),(by have:=flt_le (mkB b) P.length; omega),rfl,(by rw [hqsE522_2]; rfl),trivial⟩ rfl) (Hd.en_n (sE5_23 n d q y P b e1 e2 p hw hb hu hv0 ht hE h0 hv hqsE57_1 hqsE57_2 hqsE522_1 hqsE522_2 w hs))
  ·skip
   exact absurd (show hoB (cT P) q d (List.take ((flt (mkB b) P.length).length * 1) (List.drop 0 (qO6_41 P b))) (flt (mkB b) P.length).length n=true from by rw [takeL,hho]) (by rw [hqsE522_2]; decide)
 ·skip
  have ghqsE522_1:=eqI_false hqsE522_1
  exact absurd (show eqI (if hoB (cT P) q d (List.take ((flt (mkB b) P.length).length * 1) (List.drop 0 (qO6_41 P b))) (flt (mkB b) P.length).length n=true then 0 else 18) 0=true from by rw [takeL,hho]; rfl) (by rw [hqsE522_1]; decide)
theorem sE5_17 (n:Nat) (d q:Int) (y:Value) (P:PL) (b e1 e2 p:Int) (hw:Known pg (clsO wkO)) (hb:0≤b∧b≤4294967295) (hu:0≤e1∧e1≤255) (hv0:0≤e2∧e2≤255) (ht:0≤p∧p≤255) (hE:roE n d q (cT P) P.length=0) (h0:0 < (flt (mkB b) P.length).length) (hv:(drV (cT P) q d (qO6_41 P b) (flt (mkB b) P.length).length n)=n) (hqsE57_1:(ltI 30 P.length)=false) (hqsE57_2:(eqI (roE n d q (cT P) P.length) 0)=true) (w:World) (hs:LN):Goes pg 129 sE5K15 ((qO6_4 P b d e1 e2 n p q y)) (BaseW.H w hs) (OutH pg Try.f8 129 (.bool true) w):=by
 have hI:=icE_flt (st:=mkB b) hE
 obtain ⟨hm,⟨ha1,ha2,ha3⟩,hp0⟩:=roE_zero hE
 have hn:n≤1000:=by omega
 have hfl:=flt_24 (b:=b) hm
 have hho:=ho_v5 hv
 have h14:=fun z hz=>h14_5 (e1:=e1) (e2:=e2) hI hho (by omega) z hz
 have hz:=hz_5 (n:=n) ht (by omega)
 have ghqsE57_1:=lF hqsE57_1
 have ghqsE57_2:=eqI_true hqsE57_2
 refine gS (by kernel_rfl) ?_
 exact gL isN_e (gT cm (known_l55 hw) 200 (T':=(qO6_9 P b d e1 e2 n p q y)) (e:=.normal) (ps:=[eqI ((5:Int)) 0=false]) [.go,.go,.b false] (by kernel_rfl) (by kernel_rfl) ⟨rfl,trivial⟩ rfl) (Hd.en_n (sE5_20 n d q y P b e1 e2 p hw hb hu hv0 ht hE h0 hv hqsE57_1 hqsE57_2 w hs))
theorem sE5_14 (n:Nat) (d q:Int) (y:Value) (P:PL) (b e1 e2 p:Int) (hw:Known pg (clsO wkO)) (hb:0≤b∧b≤4294967295) (hu:0≤e1∧e1≤255) (hv0:0≤e2∧e2≤255) (ht:0≤p∧p≤255) (hE:roE n d q (cT P) P.length=0) (h0:0 < (flt (mkB b) P.length).length) (hv:(drV (cT P) q d (qO6_41 P b) (flt (mkB b) P.length).length n)=n) (hqsE57_1:(ltI 30 P.length)=false) (hqsE57_2:(eqI (roE n d q (cT P) P.length) 0)=true) (w:World) (hs:LN):Goes pg 129 sE5K12 ((qO6_12 P b d e1 e2 n p q y)) (BaseW.H w hs) (OutH pg Try.f8 129 (.bool true) w):=by
 have hI:=icE_flt (st:=mkB b) hE
 obtain ⟨hm,⟨ha1,ha2,ha3⟩,hp0⟩:=roE_zero hE
 have hn:n≤1000:=by omega
 have hfl:=flt_24 (b:=b) hm
 have hho:=ho_v5 hv
 have h14:=fun z hz=>h14_5 (e1:=e1) (e2:=e2) hI hho (by omega) z hz
 have hz:=hz_5 (n:=n) ht (by omega)
 have ghqsE57_1:=lF hqsE57_1
 have ghqsE57_2:=eqI_true hqsE57_2
 refine gS (by kernel_rfl) ?_
 exact gL isN_e (gT cm (known_l55 hw) 200 (T':=(qO6_4 P b d e1 e2 n p q y)) (e:=.normal) (ps:=[0 + (flt (mkB b) P.length).length * (0 + 1)≤((qO6_41 P b):List AV).length,IsT P.length (cT P),IsC (0 + 1) (flt (mkB b) P.length).length (List.take ((flt (mkB b) P.length).length * (0 + 1)) (List.drop 0 (qO6_41 P b))),icE n d q (cT P) P.length (List.take ((flt (mkB b) P.length).length * (0 + 1)) (List.drop 0 (qO6_41 P b))) (flt (mkB b) P.length).length=0,(flt (mkB b) P.length).length≤1000]) [.go,.go,.go,.go,.go,.go,.go] (by kernel_rfl) (by kernel_rfl) ⟨(by show _≤(cI _).length; rw [cI_len]; omega),⟨P,rfl,rfl⟩,⟨rfl,_,takeL,rfl⟩,(by rw [takeL]; exact hI),(by have:=flt_le (mkB b) P.length; omega),trivial⟩ rfl) (Hd.en_n (sE5_17 n d q y P b e1 e2 p hw hb hu hv0 ht hE h0 hv hqsE57_1 hqsE57_2 w hs))
theorem sE5_11 (n:Nat) (d q:Int) (y:Value) (P:PL) (b e1 e2 p:Int) (hw:Known pg (clsO wkO)) (hb:0≤b∧b≤4294967295) (hu:0≤e1∧e1≤255) (hv0:0≤e2∧e2≤255) (ht:0≤p∧p≤255) (hE:roE n d q (cT P) P.length=0) (h0:0 < (flt (mkB b) P.length).length) (hv:(drV (cT P) q d (qO6_41 P b) (flt (mkB b) P.length).length n)=n) (hqsE57_1:(ltI 30 P.length)=false) (hqsE57_2:(eqI (roE n d q (cT P) P.length) 0)=true) (w:World) (hs:LN):Goes pg 129 sE5K9 ((qO6_17 P b d e1 e2 n p q y)) (BaseW.H w hs) (OutH pg Try.f8 129 (.bool true) w):=by
 have hI:=icE_flt (st:=mkB b) hE
 obtain ⟨hm,⟨ha1,ha2,ha3⟩,hp0⟩:=roE_zero hE
 have hn:n≤1000:=by omega
 have hfl:=flt_24 (b:=b) hm
 have hho:=ho_v5 hv
 have h14:=fun z hz=>h14_5 (e1:=e1) (e2:=e2) hI hho (by omega) z hz
 have hz:=hz_5 (n:=n) ht (by omega)
 have ghqsE57_1:=lF hqsE57_1
 have ghqsE57_2:=eqI_true hqsE57_2
 refine gS (by kernel_rfl) ?_
 exact gL isN_e (gT cm (known_l55 hw) 200 (T':=(qO6_12 P b d e1 e2 n p q y)) (e:=.normal) (ps:=[0 + (flt (mkB b) P.length).length * (0 + 1)≤((qO6_41 P b):List AV).length,IsT P.length (cT P),IsC (0 + 1) (flt (mkB b) P.length).length (List.take ((flt (mkB b) P.length).length * (0 + 1)) (List.drop 0 (qO6_41 P b))),icE n d q (cT P) P.length (List.take ((flt (mkB b) P.length).length * (0 + 1)) (List.drop 0 (qO6_41 P b))) (flt (mkB b) P.length).length=0,(flt (mkB b) P.length).length≤1000,0 < (flt (mkB b) P.length).length,drV (cT P) q d (List.take ((flt (mkB b) P.length).length * (0 + 1)) (List.drop 0 (qO6_41 P b))) (flt (mkB b) P.length).length n=n]) [.go,.go,.go,.go,.go,.go,.go,.go,.go] (by kernel_rfl) (by kernel_rfl) ⟨(by show _≤(cI _).length; rw [cI_len]; omega),⟨P,rfl,rfl⟩,⟨rfl,_,takeL,rfl⟩,(by rw [takeL]; exact hI),(by have:=flt_le (mkB b) P.length; omega),h0,(by rw [takeL]; exact hv),trivial⟩ rfl) (Hd.en_n (sE5_14 n d q y P b e1 e2 p hw hb hu hv0 ht hE h0 hv hqsE57_1 hqsE57_2 w hs))
theorem sE5_8 (n:Nat) (d q:Int) (y:Value) (P:PL) (b e1 e2 p:Int) (hw:Known pg (clsO wkO)) (hb:0≤b∧b≤4294967295) (hu:0≤e1∧e1≤255) (hv0:0≤e2∧e2≤255) (ht:0≤p∧p≤255) (hE:roE n d q (cT P) P.length=0) (h0:0 < (flt (mkB b) P.length).length) (hv:(drV (cT P) q d (qO6_41 P b) (flt (mkB b) P.length).length n)=n) (hqsE57_1:(ltI 30 P.length)=false) (hqsE57_2:(eqI (roE n d q (cT P) P.length) 0)=true) (w:World) (hs:LN):Goes pg 129 sE5K6 ((qO6_20 P b d e1 e2 n p q y)) (BaseW.H w hs) (OutH pg Try.f8 129 (.bool true) w):=by
 have hI:=icE_flt (st:=mkB b) hE
 obtain ⟨hm,⟨ha1,ha2,ha3⟩,hp0⟩:=roE_zero hE
 have hn:n≤1000:=by omega
 have hfl:=flt_24 (b:=b) hm
 have hho:=ho_v5 hv
 have h14:=fun z hz=>h14_5 (e1:=e1) (e2:=e2) hI hho (by omega) z hz
 have hz:=hz_5 (n:=n) ht (by omega)
 have ghqsE57_1:=lF hqsE57_1
 have ghqsE57_2:=eqI_true hqsE57_2
 refine gS (by kernel_rfl) ?_
 exact gL isN_e (gT cm (known_l55 hw) 200 (T':=(qO6_17 P b d e1 e2 n p q y)) (e:=.normal) (ps:=[FreeL (cT P),IsT P.length (cT P),P.length≤24,0≤b∧b≤4294967295,0 < (flt (mkB b) P.length).length]) [.go,.go,.go] (by kernel_rfl) (by kernel_rfl) ⟨(fP (cT_plain P)),⟨P,rfl,rfl⟩,hm,hb,h0,trivial⟩ rfl) (Hd.en_n (sE5_11 n d q y P b e1 e2 p hw hb hu hv0 ht hE h0 hv hqsE57_1 hqsE57_2 w hs))
theorem sE5_5 (n:Nat) (d q:Int) (y:Value) (P:PL) (b e1 e2 p:Int) (hw:Known pg (clsO wkO)) (hb:0≤b∧b≤4294967295) (hu:0≤e1∧e1≤255) (hv0:0≤e2∧e2≤255) (ht:0≤p∧p≤255) (hE:roE n d q (cT P) P.length=0) (h0:0 < (flt (mkB b) P.length).length) (hv:(drV (cT P) q d (qO6_41 P b) (flt (mkB b) P.length).length n)=n) (w:World) (hs:LN):Goes pg 129 sE5K3 ((qO6_21 P b d e1 e2 n p q y)) (BaseW.H w hs) (OutH pg Try.f8 129 (.bool true) w):=by
 have hI:=icE_flt (st:=mkB b) hE
 obtain ⟨hm,⟨ha1,ha2,ha3⟩,hp0⟩:=roE_zero hE
 have hn:n≤1000:=by omega
 have hfl:=flt_24 (b:=b) hm
 have hho:=ho_v5 hv
 have h14:=fun z hz=>h14_5 (e1:=e1) (e2:=e2) hI hho (by omega) z hz
 have hz:=hz_5 (n:=n) ht (by omega)
 refine gS (by kernel_rfl) ?_
 rcases bE (ltI 30 P.length) with hqsE57_1 | hqsE57_1
 ·skip
  have ghqsE57_1:=lT hqsE57_1
  exfalso
  have h9:=lT hqsE57_1
  omega
 ·skip
  have ghqsE57_1:=lF hqsE57_1
  rcases bE (eqI (roE n d q (cT P) P.length) 0) with hqsE57_2 | hqsE57_2
  ·skip
   have ghqsE57_2:=eqI_true hqsE57_2
   exact gL isN_e (gT cm (known_l55 hw) 200 (T':=(qO6_20 P b d e1 e2 n p q y)) (e:=.normal) (ps:=[IsT P.length (cT P),(!ltI 30 P.length)=true,true=true,IsT P.length (cT P),true=true,(!eqI (roE n d q (cT P) P.length) 0)=false]) [.go,.go,.go,.go,.go,.go,.b true,.go,.b true,.b true,.go,.go,.go,.go,.b false] (by kernel_rfl) (by kernel_rfl) ⟨⟨P,rfl,rfl⟩,(by rw [hqsE57_1]; rfl),rfl,⟨P,rfl,rfl⟩,rfl,(by rw [hqsE57_2]; rfl),trivial⟩ rfl) (Hd.en_n (sE5_8 n d q y P b e1 e2 p hw hb hu hv0 ht hE h0 hv hqsE57_1 hqsE57_2 w hs))
  ·skip
   have ghqsE57_2:=eqI_false hqsE57_2
   exact absurd hE (eqI_false hqsE57_2)
theorem sE5_2 (n:Nat) (d q:Int) (y:Value) (P:PL) (b e1 e2 p:Int) (hw:Known pg (clsO wkO)) (hb:0≤b∧b≤4294967295) (hu:0≤e1∧e1≤255) (hv0:0≤e2∧e2≤255) (ht:0≤p∧p≤255) (hE:roE n d q (cT P) P.length=0) (h0:0 < (flt (mkB b) P.length).length) (hv:(drV (cT P) q d (qO6_41 P b) (flt (mkB b) P.length).length n)=n) (w:World) (hs:LN):Goes pg 129 sE5K1 ((qO6_24 P b d e1 e2 n p q y)) (BaseW.H w hs) (OutH pg Try.f8 129 (.bool true) w):=by
 have hI:=icE_flt (st:=mkB b) hE
 obtain ⟨hm,⟨ha1,ha2,ha3⟩,hp0⟩:=roE_zero hE
 have hn:n≤1000:=by omega
 have hfl:=flt_24 (b:=b) hm
 have hho:=ho_v5 hv
 have h14:=fun z hz=>h14_5 (e1:=e1) (e2:=e2) hI hho (by omega) z hz
 have hz:=hz_5 (n:=n) ht (by omega)
 refine gS (by kernel_rfl) ?_
 exact gL isN_e (gT cm (known_l55 hw) 200 (T':=(qO6_21 P b d e1 e2 n p q y)) (e:=.normal) (ps:=[]) [.go,.go,.go] (by kernel_rfl) (by kernel_rfl) trivial rfl) (Hd.en_n (sE5_5 n d q y P b e1 e2 p hw hb hu hv0 ht hE h0 hv w hs))
theorem sei_5 (n:Nat) (d q:Int) (y:Value) (P:PL) (b e1 e2 p:Int) (hw:Known pg (clsO wkO)) (hb:0≤b∧b≤4294967295) (hu:0≤e1∧e1≤255) (hv0:0≤e2∧e2≤255) (ht:0≤p∧p≤255) (hE:roE n d q (cT P) P.length=0) (h0:0 < (flt (mkB b) P.length).length) (hv:(drV (cT P) q d (qO6_41 P b) (flt (mkB b) P.length).length n)=n):GivesA pg 8 [(.agg [.v (.int .i64 n),.v (.int .i64 d),.v (.int .i64 q),.xl y P.length 3 (cT P)]),(.v (.int .u32 b)),(.agg [.v (.int .u8 e1),.v (.int .u8 e2)]),(.v (.int .u8 p))] (.bool true) :=
 givesA_partsH 129 Try.func8 (by kernel_rfl) (by kernel_rfl) (by kernel_rfl) (fun w=>goes_less (by kernel_rfl) (by kernel_rfl) (by kernel_rfl) (by kernel_rfl) (sE5_2 n d q y P b e1 e2 p hw hb hu hv0 ht hE h0 hv w []))
def sEnK1:Code:=bodyC Try.f8
def sEnK3:Code:=tlC sEnK1
def sEnK6:Code:=tlC sEnK3
def sEnK9:Code:=tlC sEnK6
def sEnK12:Code:=tlC sEnK9
def sEnK15:Code:=tlC sEnK12
theorem sEn_17 (n:Nat) (d q:Int) (y:Value) (P:PL) (b e1 e2 p:Int) (hw:Known pg (clsO wkO)) (hb:0≤b∧b≤4294967295) (hu:0≤e1∧e1≤255) (hv0:0≤e2∧e2≤255) (ht:0≤p∧p≤255) (hE:roE n d q (cT P) P.length=0) (h0:0 < (flt (mkB b) P.length).length) (hv:(drV (cT P) q d (qO6_41 P b) (flt (mkB b) P.length).length n) < n) (hl:(drL (cT P) q d (qO6_41 P b) (flt (mkB b) P.length).length n).length=0) (hqsEn7_1:(ltI 30 P.length)=false) (hqsEn7_2:(eqI (roE n d q (cT P) P.length) 0)=true) (w:World) (hs:LN):Goes pg 129 sEnK15 ((qO6_3 P b d e1 e2 n p q y)) (BaseW.H w hs) (OutH pg Try.f8 129 (.bool true) w):=by
 have hI:=icE_flt (st:=mkB b) hE
 obtain ⟨hm,⟨ha1,ha2,ha3⟩,hp0⟩:=roE_zero hE
 have hn:n≤1000:=by omega
 have hfl:=flt_24 (b:=b) hm
 have hho:=ho_vn hv
 have ghqsEn7_1:=lF hqsEn7_1
 have ghqsEn7_2:=eqI_true hqsEn7_2
 refine gS (by kernel_rfl) ?_
 rcases bE (eqI (if hoB (cT P) q d (List.take ((flt (mkB b) P.length).length * (0 + 1)) (List.drop 0 (qO6_41 P b))) (flt (mkB b) P.length).length n=true then 0 else 18) 18) with hqsEn19_1 | hqsEn19_1
 ·skip
  have ghqsEn19_1:=eqI_true hqsEn19_1
  rcases bE (eqI (cdE n d q (cT P) P.length (List.take ((flt (mkB b) P.length).length * (0 + 1)) (List.drop 0 (qO6_41 P b))) (flt (mkB b) P.length).length ((drV (cT P) q d (List.take ((flt (mkB b) P.length).length * (0 + 1)) (List.drop 0 (qO6_41 P b))) (flt (mkB b) P.length).length n:Nat):Int) [] 0) 0) with hqsEn19_2 | hqsEn19_2
  ·skip
   have ghqsEn19_2:=eqI_true hqsEn19_2
   rcases bE (hoB (cT P) q d (List.take ((flt (mkB b) P.length).length * (0 + 1)) (List.drop 0 (qO6_41 P b))) (flt (mkB b) P.length).length n) with hqsEn19_3 | hqsEn19_3
   ·skip
    exact absurd (show hoB (cT P) q d (List.take ((flt (mkB b) P.length).length * 1) (List.drop 0 (qO6_41 P b))) (flt (mkB b) P.length).length n=false from by rw [takeL,hho]) (by rw [hqsEn19_3]; decide)
   ·skip
    exact gL isR_e (gT cm (known_l5n hw) 200 (T':=⟨[(8,(.v (.bool .true)))],[],4,[]⟩) (e:=.ret) (ps:=[eqI ((0:Int)) 0=true,eqI (if hoB (cT P) q d (List.take ((flt (mkB b) P.length).length * (0 + 1)) (List.drop 0 (qO6_41 P b))) (flt (mkB b) P.length).length n=true then 0 else 18) 18=true,true=true,true=true,true=true,true=true,0 + (flt (mkB b) P.length).length * (0 + 1)≤((qO6_41 P b):List AV).length,IsT P.length (cT P),IsC (0 + 1) (flt (mkB b) P.length).length (List.take ((flt (mkB b) P.length).length * (0 + 1)) (List.drop 0 (qO6_41 P b))),IsC (0 + 1) 0 [],(flt (mkB b) P.length).length≤1000,((0:Nat)≤1000),true=true,eqI (cdE n d q (cT P) P.length (List.take ((flt (mkB b) P.length).length * (0 + 1)) (List.drop 0 (qO6_41 P b))) (flt (mkB b) P.length).length ((drV (cT P) q d (List.take ((flt (mkB b) P.length).length * (0 + 1)) (List.drop 0 (qO6_41 P b))) (flt (mkB b) P.length).length n:Nat):Int) [] 0) 0=true,true=true,true=true,true=true,true=true,0 + (flt (mkB b) P.length).length * (0 + 1)≤((qO6_41 P b):List AV).length,IsT P.length (cT P),IsC (0 + 1) (flt (mkB b) P.length).length (List.take ((flt (mkB b) P.length).length * (0 + 1)) (List.drop 0 (qO6_41 P b))),IsC (0 + 1) 0 [],(flt (mkB b) P.length).length≤1000,((0:Nat)≤1000),true=true,eqI (cdE n d q (cT P) P.length (List.take ((flt (mkB b) P.length).length * (0 + 1)) (List.drop 0 (qO6_41 P b))) (flt (mkB b) P.length).length ((drV (cT P) q d (List.take ((flt (mkB b) P.length).length * (0 + 1)) (List.drop 0 (qO6_41 P b))) (flt (mkB b) P.length).length n:Nat):Int) [] 0) 0=true,true=true,true=true,0 + (flt (mkB b) P.length).length * (0 + 1)≤((qO6_41 P b):List AV).length,IsT P.length (cT P),IsC (0 + 1) (flt (mkB b) P.length).length (List.take ((flt (mkB b) P.length).length * (0 + 1)) (List.drop 0 (qO6_41 P b))),icE n d q (cT P) P.length (List.take ((flt (mkB b) P.length).length * (0 + 1)) (List.drop 0 (qO6_41 P b))) (flt (mkB b) P.length).length=0,(flt (mkB b) P.length).length≤1000,true=true,(!hoB (cT P) q d (List.take ((flt (mkB b) P.length).length * (0 + 1)) (List.drop 0 (qO6_41 P b))) (flt (mkB b) P.length).length n)=true]) [.go,.go,.b true,.go,.go,.go,.b true,.go,.b true,.go,.b true,.go,.b true,.go,.b true,.b true,.go,.go,.go,.b true,.go,.b true,.go,.b true,.go,.b true,.go,.b true,.b true,.go,.go,.go,.b true,.go,.b true,.go,.b true,.b true,.go,.go,.go,.b true,.go,.go] (by kernel_rfl) (by kernel_rfl) ⟨rfl,hqsEn19_1,rfl,rfl,rfl,rfl,(by show _≤(cI _).length; rw [cI_len]; omega),⟨P,rfl,rfl⟩,⟨rfl,_,takeL,rfl⟩,⟨rfl,[],rfl,rfl⟩,(by have:=flt_le (mkB b) P.length; omega),(by decide),rfl,hqsEn19_2,rfl,rfl,rfl,rfl,(by show _≤(cI _).length; rw [cI_len]; omega),⟨P,rfl,rfl⟩,⟨rfl,_,takeL,rfl⟩,⟨rfl,[],rfl,rfl⟩,(by have:=flt_le (mkB b) P.length; omega),(by decide),rfl,hqsEn19_2,rfl,rfl,(by show _≤(cI _).length; rw [cI_len]; omega),⟨P,rfl,rfl⟩,⟨rfl,_,takeL,rfl⟩,(by rw [takeL]; exact hI),(by have:=flt_le (mkB b) P.length; omega),rfl,(by rw [hqsEn19_3]; rfl),trivial⟩ rfl) (Hd.en_o (by intro h; cases h) (Hd.en_eq (r:=(.bool .true)) (by rfl) (Hd.en_ret (v:=(.v (.bool .true))) (by kernel_rfl) rfl)))
  ·skip
   have ghqsEn19_2:=eqI_false hqsEn19_2
   exact absurd (show cdE n d q (cT P) P.length (List.take ((flt (mkB b) P.length).length * 1) (List.drop 0 (qO6_41 P b))) (flt (mkB b) P.length).length (((drV (cT P) q d (List.take ((flt (mkB b) P.length).length * 1) (List.drop 0 (qO6_41 P b))) (flt (mkB b) P.length).length n):Nat):Int) [] 0=0 from by rw [takeL]; exact dk_nil hI hv hl) (eqI_false hqsEn19_2)
 ·skip
  have ghqsEn19_1:=eqI_false hqsEn19_1
  exact absurd (show eqI (if hoB (cT P) q d (List.take ((flt (mkB b) P.length).length * 1) (List.drop 0 (qO6_41 P b))) (flt (mkB b) P.length).length n=true then 0 else 18) 18=true from by rw [takeL,hho]; rfl) (by rw [hqsEn19_1]; decide)
theorem sEn_14 (n:Nat) (d q:Int) (y:Value) (P:PL) (b e1 e2 p:Int) (hw:Known pg (clsO wkO)) (hb:0≤b∧b≤4294967295) (hu:0≤e1∧e1≤255) (hv0:0≤e2∧e2≤255) (ht:0≤p∧p≤255) (hE:roE n d q (cT P) P.length=0) (h0:0 < (flt (mkB b) P.length).length) (hv:(drV (cT P) q d (qO6_41 P b) (flt (mkB b) P.length).length n) < n) (hl:(drL (cT P) q d (qO6_41 P b) (flt (mkB b) P.length).length n).length=0) (hqsEn7_1:(ltI 30 P.length)=false) (hqsEn7_2:(eqI (roE n d q (cT P) P.length) 0)=true) (w:World) (hs:LN):Goes pg 129 sEnK12 ((qO6_8 P b d e1 e2 n p q y)) (BaseW.H w hs) (OutH pg Try.f8 129 (.bool true) w):=by
 have hI:=icE_flt (st:=mkB b) hE
 obtain ⟨hm,⟨ha1,ha2,ha3⟩,hp0⟩:=roE_zero hE
 have hn:n≤1000:=by omega
 have hfl:=flt_24 (b:=b) hm
 have hho:=ho_vn hv
 have ghqsEn7_1:=lF hqsEn7_1
 have ghqsEn7_2:=eqI_true hqsEn7_2
 refine gS (by kernel_rfl) ?_
 exact gL isN_e (gT cm (known_l5n hw) 200 (T':=(qO6_3 P b d e1 e2 n p q y)) (e:=.normal) (ps:=[0 + (flt (mkB b) P.length).length * (0 + 1)≤((qO6_41 P b):List AV).length,IsT P.length (cT P),IsC (0 + 1) (flt (mkB b) P.length).length (List.take ((flt (mkB b) P.length).length * (0 + 1)) (List.drop 0 (qO6_41 P b))),icE n d q (cT P) P.length (List.take ((flt (mkB b) P.length).length * (0 + 1)) (List.drop 0 (qO6_41 P b))) (flt (mkB b) P.length).length=0,(flt (mkB b) P.length).length≤1000]) [.go,.go,.go,.go,.go,.go,.go] (by kernel_rfl) (by kernel_rfl) ⟨(by show _≤(cI _).length; rw [cI_len]; omega),⟨P,rfl,rfl⟩,⟨rfl,_,takeL,rfl⟩,(by rw [takeL]; exact hI),(by have:=flt_le (mkB b) P.length; omega),trivial⟩ rfl) (Hd.en_n (sEn_17 n d q y P b e1 e2 p hw hb hu hv0 ht hE h0 hv hl hqsEn7_1 hqsEn7_2 w hs))
theorem sEn_11 (n:Nat) (d q:Int) (y:Value) (P:PL) (b e1 e2 p:Int) (hw:Known pg (clsO wkO)) (hb:0≤b∧b≤4294967295) (hu:0≤e1∧e1≤255) (hv0:0≤e2∧e2≤255) (ht:0≤p∧p≤255) (hE:roE n d q (cT P) P.length=0) (h0:0 < (flt (mkB b) P.length).length) (hv:(drV (cT P) q d (qO6_41 P b) (flt (mkB b) P.length).length n) < n) (hl:(drL (cT P) q d (qO6_41 P b) (flt (mkB b) P.length).length n).length=0) (hqsEn7_1:(ltI 30 P.length)=false) (hqsEn7_2:(eqI (roE n d q (cT P) P.length) 0)=true) (w:World) (hs:LN):Goes pg 129 sEnK9 ((qO6_17 P b d e1 e2 n p q y)) (BaseW.H w hs) (OutH pg Try.f8 129 (.bool true) w):=by
 have hI:=icE_flt (st:=mkB b) hE
 obtain ⟨hm,⟨ha1,ha2,ha3⟩,hp0⟩:=roE_zero hE
 have hn:n≤1000:=by omega
 have hfl:=flt_24 (b:=b) hm
 have hho:=ho_vn hv
 have ghqsEn7_1:=lF hqsEn7_1
 have ghqsEn7_2:=eqI_true hqsEn7_2
 refine gS (by kernel_rfl) ?_
 exact gL isN_e (gT cm (known_l5n hw) 200 (T':=(qO6_8 P b d e1 e2 n p q y)) (e:=.normal) (ps:=[0 + (flt (mkB b) P.length).length * (0 + 1)≤((qO6_41 P b):List AV).length,IsT P.length (cT P),IsC (0 + 1) (flt (mkB b) P.length).length (List.take ((flt (mkB b) P.length).length * (0 + 1)) (List.drop 0 (qO6_41 P b))),icE n d q (cT P) P.length (List.take ((flt (mkB b) P.length).length * (0 + 1)) (List.drop 0 (qO6_41 P b))) (flt (mkB b) P.length).length=0,(flt (mkB b) P.length).length≤1000,0 < (flt (mkB b) P.length).length,drV (cT P) q d (List.take ((flt (mkB b) P.length).length * (0 + 1)) (List.drop 0 (qO6_41 P b))) (flt (mkB b) P.length).length n < n,(drL (cT P) q d (List.take ((flt (mkB b) P.length).length * (0 + 1)) (List.drop 0 (qO6_41 P b))) (flt (mkB b) P.length).length n).length=0]) [.go,.go,.go,.go,.go,.go,.go,.go,.go] (by kernel_rfl) (by kernel_rfl) ⟨(by show _≤(cI _).length; rw [cI_len]; omega),⟨P,rfl,rfl⟩,⟨rfl,_,takeL,rfl⟩,(by rw [takeL]; exact hI),(by have:=flt_le (mkB b) P.length; omega),h0,(by rw [takeL]; exact hv),(by rw [takeL]; exact hl),trivial⟩ rfl) (Hd.en_n (sEn_14 n d q y P b e1 e2 p hw hb hu hv0 ht hE h0 hv hl hqsEn7_1 hqsEn7_2 w hs))
theorem sEn_8 (n:Nat) (d q:Int) (y:Value) (P:PL) (b e1 e2 p:Int) (hw:Known pg (clsO wkO)) (hb:0≤b∧b≤4294967295) (hu:0≤e1∧e1≤255) (hv0:0≤e2∧e2≤255) (ht:0≤p∧p≤255) (hE:roE n d q (cT P) P.length=0) (h0:0 < (flt (mkB b) P.length).length) (hv:(drV (cT P) q d (qO6_41 P b) (flt (mkB b) P.length).length n) < n) (hl:(drL (cT P) q d (qO6_41 P b) (flt (mkB b) P.length).length n).length=0) (hqsEn7_1:(ltI 30 P.length)=false) (hqsEn7_2:(eqI (roE n d q (cT P) P.length) 0)=true) (w:World) (hs:LN):Goes pg 129 sEnK6 ((qO6_20 P b d e1 e2 n p q y)) (BaseW.H w hs) (OutH pg Try.f8 129 (.bool true) w):=by
 have hI:=icE_flt (st:=mkB b) hE
 obtain ⟨hm,⟨ha1,ha2,ha3⟩,hp0⟩:=roE_zero hE
 have hn:n≤1000:=by omega
 have hfl:=flt_24 (b:=b) hm
 have hho:=ho_vn hv
 have ghqsEn7_1:=lF hqsEn7_1
 have ghqsEn7_2:=eqI_true hqsEn7_2
 refine gS (by kernel_rfl) ?_
 exact gL isN_e (gT cm (known_l5n hw) 200 (T':=(qO6_17 P b d e1 e2 n p q y)) (e:=.normal) (ps:=[FreeL (cT P),IsT P.length (cT P),P.length≤24,0≤b∧b≤4294967295,0 < (flt (mkB b) P.length).length]) [.go,.go,.go] (by kernel_rfl) (by kernel_rfl) ⟨(fP (cT_plain P)),⟨P,rfl,rfl⟩,hm,hb,h0,trivial⟩ rfl) (Hd.en_n (sEn_11 n d q y P b e1 e2 p hw hb hu hv0 ht hE h0 hv hl hqsEn7_1 hqsEn7_2 w hs))
theorem sEn_5 (n:Nat) (d q:Int) (y:Value) (P:PL) (b e1 e2 p:Int) (hw:Known pg (clsO wkO)) (hb:0≤b∧b≤4294967295) (hu:0≤e1∧e1≤255) (hv0:0≤e2∧e2≤255) (ht:0≤p∧p≤255) (hE:roE n d q (cT P) P.length=0) (h0:0 < (flt (mkB b) P.length).length) (hv:(drV (cT P) q d (qO6_41 P b) (flt (mkB b) P.length).length n) < n) (hl:(drL (cT P) q d (qO6_41 P b) (flt (mkB b) P.length).length n).length=0) (w:World) (hs:LN):Goes pg 129 sEnK3 ((qO6_21 P b d e1 e2 n p q y)) (BaseW.H w hs) (OutH pg Try.f8 129 (.bool true) w):=by
 have hI:=icE_flt (st:=mkB b) hE
 obtain ⟨hm,⟨ha1,ha2,ha3⟩,hp0⟩:=roE_zero hE
 have hn:n≤1000:=by omega
 have hfl:=flt_24 (b:=b) hm
 have hho:=ho_vn hv
 refine gS (by kernel_rfl) ?_
 rcases bE (ltI 30 P.length) with hqsEn7_1 | hqsEn7_1
 ·skip
  have ghqsEn7_1:=lT hqsEn7_1
  exfalso
  have h9:=lT hqsEn7_1
  omega
 ·skip
  have ghqsEn7_1:=lF hqsEn7_1
  rcases bE (eqI (roE n d q (cT P) P.length) 0) with hqsEn7_2 | hqsEn7_2
  ·skip
   have ghqsEn7_2:=eqI_true hqsEn7_2
   exact gL isN_e (gT cm (known_l5n hw) 200 (T':=(qO6_20 P b d e1 e2 n p q y)) (e:=.normal) (ps:=[IsT P.length (cT P),(!ltI 30 P.length)=true,true=true,IsT P.length (cT P),true=true,(!eqI (roE n d q (cT P) P.length) 0)=false]) [.go,.go,.go,.go,.go,.go,.b true,.go,.b true,.b true,.go,.go,.go,.go,.b false] (by kernel_rfl) (by kernel_rfl) ⟨⟨P,rfl,rfl⟩,(by rw [hqsEn7_1]; rfl),rfl,⟨P,rfl,rfl⟩,rfl,(by rw [hqsEn7_2]; rfl),trivial⟩ rfl) (Hd.en_n (sEn_8 n d q y P b e1 e2 p hw hb hu hv0 ht hE h0 hv hl hqsEn7_1 hqsEn7_2 w hs))
  ·skip
   have ghqsEn7_2:=eqI_false hqsEn7_2
   exact absurd hE (eqI_false hqsEn7_2)
theorem sEn_2 (n:Nat) (d q:Int) (y:Value) (P:PL) (b e1 e2 p:Int) (hw:Known pg (clsO wkO)) (hb:0≤b∧b≤4294967295) (hu:0≤e1∧e1≤255) (hv0:0≤e2∧e2≤255) (ht:0≤p∧p≤255) (hE:roE n d q (cT P) P.length=0) (h0:0 < (flt (mkB b) P.length).length) (hv:(drV (cT P) q d (qO6_41 P b) (flt (mkB b) P.length).length n) < n) (hl:(drL (cT P) q d (qO6_41 P b) (flt (mkB b) P.length).length n).length=0) (w:World) (hs:LN):Goes pg 129 sEnK1 ((qO6_24 P b d e1 e2 n p q y)) (BaseW.H w hs) (OutH pg Try.f8 129 (.bool true) w):=by
 have hI:=icE_flt (st:=mkB b) hE
 obtain ⟨hm,⟨ha1,ha2,ha3⟩,hp0⟩:=roE_zero hE
 have hn:n≤1000:=by omega
 have hfl:=flt_24 (b:=b) hm
 have hho:=ho_vn hv
 refine gS (by kernel_rfl) ?_
 exact gL isN_e (gT cm (known_l5n hw) 200 (T':=(qO6_21 P b d e1 e2 n p q y)) (e:=.normal) (ps:=[]) [.go,.go,.go] (by kernel_rfl) (by kernel_rfl) trivial rfl) (Hd.en_n (sEn_5 n d q y P b e1 e2 p hw hb hu hv0 ht hE h0 hv hl w hs))
theorem sei_n (n:Nat) (d q:Int) (y:Value) (P:PL) (b e1 e2 p:Int) (hw:Known pg (clsO wkO)) (hb:0≤b∧b≤4294967295) (hu:0≤e1∧e1≤255) (hv0:0≤e2∧e2≤255) (ht:0≤p∧p≤255) (hE:roE n d q (cT P) P.length=0) (h0:0 < (flt (mkB b) P.length).length) (hv:(drV (cT P) q d (qO6_41 P b) (flt (mkB b) P.length).length n) < n) (hl:(drL (cT P) q d (qO6_41 P b) (flt (mkB b) P.length).length n).length=0):GivesA pg 8 [(.agg [.v (.int .i64 n),.v (.int .i64 d),.v (.int .i64 q),.xl y P.length 3 (cT P)]),(.v (.int .u32 b)),(.agg [.v (.int .u8 e1),.v (.int .u8 e2)]),(.v (.int .u8 p))] (.bool true) :=
 givesA_partsH 129 Try.func8 (by kernel_rfl) (by kernel_rfl) (by kernel_rfl) (fun w=>goes_less (by kernel_rfl) (by kernel_rfl) (by kernel_rfl) (by kernel_rfl) (sEn_2 n d q y P b e1 e2 p hw hb hu hv0 ht hE h0 hv hl w []))
def sERK1:Code:=bodyC Try.f8
def sERK3:Code:=tlC sERK1
def sERK6:Code:=tlC sERK3
def sERK9:Code:=tlC sERK6
def sERK12:Code:=tlC sERK9
def sERK15:Code:=tlC sERK12
theorem sER_17 (n:Nat) (d q:Int) (y:Value) (P:PL) (b e1 e2 p:Int) (hw:Known pg (clsO wkO)) (hb:0≤b∧b≤4294967295) (hu:0≤e1∧e1≤255) (hv0:0≤e2∧e2≤255) (ht:0≤p∧p≤255) (hE:roE n d q (cT P) P.length=0) (h0:0 < (flt (mkB b) P.length).length) (hv:(drV (cT P) q d (qO6_41 P b) (flt (mkB b) P.length).length n) < n) (hl:0 < (drL (cT P) q d (qO6_41 P b) (flt (mkB b) P.length).length n).length) (hqsER7_1:(ltI 30 P.length)=false) (hqsER7_2:(eqI (roE n d q (cT P) P.length) 0)=true) (w:World) (hs:LN):Goes pg 129 sERK15 ((qO6_1 P b d e1 e2 n p q y)) (BaseW.H w hs) (OutH pg Try.f8 129 (.bool true) w):=by
 have hI:=icE_flt (st:=mkB b) hE
 obtain ⟨hm,⟨ha1,ha2,ha3⟩,hp0⟩:=roE_zero hE
 have hn:n≤1000:=by omega
 have hfl:=flt_24 (b:=b) hm
 have hho:=ho_vn hv
 have ghqsER7_1:=lF hqsER7_1
 have ghqsER7_2:=eqI_true hqsER7_2
 refine gS (by kernel_rfl) ?_
 rcases bE (eqI (if hoB (cT P) q d (List.take ((flt (mkB b) P.length).length * (0 + 1)) (List.drop 0 (qO6_41 P b))) (flt (mkB b) P.length).length n=true then 0 else 18) 18) with hqsER19_1 | hqsER19_1
 ·skip
  have ghqsER19_1:=eqI_true hqsER19_1
  rcases bE (eqI (cdE n d q (cT P) P.length (List.take ((flt (mkB b) P.length).length * (0 + 1)) (List.drop 0 (qO6_41 P b))) (flt (mkB b) P.length).length (((drV (cT P) q d (List.take ((flt (mkB b) P.length).length * (0 + 1)) (List.drop 0 (qO6_41 P b))) (flt (mkB b) P.length).length n:Nat):Int)) (List.take ((drL (cT P) q d (List.take ((flt (mkB b) P.length).length * (0 + 1)) (List.drop 0 (qO6_41 P b))) (flt (mkB b) P.length).length n).length * (0 + 1)) (List.drop 0 (qO6_32 P b d n q))) (drL (cT P) q d (List.take ((flt (mkB b) P.length).length * (0 + 1)) (List.drop 0 (qO6_41 P b))) (flt (mkB b) P.length).length n).length) 0) with hqsER19_2 | hqsER19_2
  ·skip
   have ghqsER19_2:=eqI_true hqsER19_2
   rcases bE (hoB (cT P) q d (List.take ((flt (mkB b) P.length).length * (0 + 1)) (List.drop 0 (qO6_41 P b))) (flt (mkB b) P.length).length n) with hqsER19_3 | hqsER19_3
   ·skip
    exact absurd (show hoB (cT P) q d (List.take ((flt (mkB b) P.length).length * 1) (List.drop 0 (qO6_41 P b))) (flt (mkB b) P.length).length n=false from by rw [takeL,hho]) (by rw [hqsER19_3]; decide)
   ·skip
    exact gL isR_e (gT cm (known_l5r hw) 200 (T':=⟨[(8,(.v (.bool .true)))],[],5,[]⟩) (e:=.ret) (ps:=[eqI ((0:Int)) 0=true,eqI (if hoB (cT P) q d (List.take ((flt (mkB b) P.length).length * (0 + 1)) (List.drop 0 (qO6_41 P b))) (flt (mkB b) P.length).length n=true then 0 else 18) 18=true,true=true,true=true,true=true,true=true,0 + (flt (mkB b) P.length).length * (0 + 1)≤((qO6_41 P b):List AV).length,0 + (drL (cT P) q d (List.take ((flt (mkB b) P.length).length * (0 + 1)) (List.drop 0 (qO6_41 P b))) (flt (mkB b) P.length).length n).length * (0 + 1)≤((qO6_32 P b d n q):List AV).length,IsT P.length (cT P),IsC (0 + 1) (flt (mkB b) P.length).length (List.take ((flt (mkB b) P.length).length * (0 + 1)) (List.drop 0 (qO6_41 P b))),IsC (0 + 1) (drL (cT P) q d (List.take ((flt (mkB b) P.length).length * (0 + 1)) (List.drop 0 (qO6_41 P b))) (flt (mkB b) P.length).length n).length (List.take ((drL (cT P) q d (List.take ((flt (mkB b) P.length).length * (0 + 1)) (List.drop 0 (qO6_41 P b))) (flt (mkB b) P.length).length n).length * (0 + 1)) (List.drop 0 (qO6_32 P b d n q))),(flt (mkB b) P.length).length≤1000,(drL (cT P) q d (List.take ((flt (mkB b) P.length).length * (0 + 1)) (List.drop 0 (qO6_41 P b))) (flt (mkB b) P.length).length n).length≤1000,true=true,eqI (cdE n d q (cT P) P.length (List.take ((flt (mkB b) P.length).length * (0 + 1)) (List.drop 0 (qO6_41 P b))) (flt (mkB b) P.length).length (((drV (cT P) q d (List.take ((flt (mkB b) P.length).length * (0 + 1)) (List.drop 0 (qO6_41 P b))) (flt (mkB b) P.length).length n:Nat):Int)) (List.take ((drL (cT P) q d (List.take ((flt (mkB b) P.length).length * (0 + 1)) (List.drop 0 (qO6_41 P b))) (flt (mkB b) P.length).length n).length * (0 + 1)) (List.drop 0 (qO6_32 P b d n q))) (drL (cT P) q d (List.take ((flt (mkB b) P.length).length * (0 + 1)) (List.drop 0 (qO6_41 P b))) (flt (mkB b) P.length).length n).length) 0=true,true=true,true=true,true=true,true=true,0 + (flt (mkB b) P.length).length * (0 + 1)≤((qO6_41 P b):List AV).length,0 + (drL (cT P) q d (List.take ((flt (mkB b) P.length).length * (0 + 1)) (List.drop 0 (qO6_41 P b))) (flt (mkB b) P.length).length n).length * (0 + 1)≤((qO6_32 P b d n q):List AV).length,IsT P.length (cT P),IsC (0 + 1) (flt (mkB b) P.length).length (List.take ((flt (mkB b) P.length).length * (0 + 1)) (List.drop 0 (qO6_41 P b))),IsC (0 + 1) (drL (cT P) q d (List.take ((flt (mkB b) P.length).length * (0 + 1)) (List.drop 0 (qO6_41 P b))) (flt (mkB b) P.length).length n).length (List.take ((drL (cT P) q d (List.take ((flt (mkB b) P.length).length * (0 + 1)) (List.drop 0 (qO6_41 P b))) (flt (mkB b) P.length).length n).length * (0 + 1)) (List.drop 0 (qO6_32 P b d n q))),(flt (mkB b) P.length).length≤1000,(drL (cT P) q d (List.take ((flt (mkB b) P.length).length * (0 + 1)) (List.drop 0 (qO6_41 P b))) (flt (mkB b) P.length).length n).length≤1000,true=true,eqI (cdE n d q (cT P) P.length (List.take ((flt (mkB b) P.length).length * (0 + 1)) (List.drop 0 (qO6_41 P b))) (flt (mkB b) P.length).length (((drV (cT P) q d (List.take ((flt (mkB b) P.length).length * (0 + 1)) (List.drop 0 (qO6_41 P b))) (flt (mkB b) P.length).length n:Nat):Int)) (List.take ((drL (cT P) q d (List.take ((flt (mkB b) P.length).length * (0 + 1)) (List.drop 0 (qO6_41 P b))) (flt (mkB b) P.length).length n).length * (0 + 1)) (List.drop 0 (qO6_32 P b d n q))) (drL (cT P) q d (List.take ((flt (mkB b) P.length).length * (0 + 1)) (List.drop 0 (qO6_41 P b))) (flt (mkB b) P.length).length n).length) 0=true,true=true,true=true,0 + (flt (mkB b) P.length).length * (0 + 1)≤((qO6_41 P b):List AV).length,IsT P.length (cT P),IsC (0 + 1) (flt (mkB b) P.length).length (List.take ((flt (mkB b) P.length).length * (0 + 1)) (List.drop 0 (qO6_41 P b))),icE n d q (cT P) P.length (List.take ((flt (mkB b) P.length).length * (0 + 1)) (List.drop 0 (qO6_41 P b))) (flt (mkB b) P.length).length=0,(flt (mkB b) P.length).length≤1000,true=true,(!hoB (cT P) q d (List.take ((flt (mkB b) P.length).length * (0 + 1)) (List.drop 0 (qO6_41 P b))) (flt (mkB b) P.length).length n)=true]) [.go,.go,.b true,.go,.go,.go,.b true,.go,.b true,.go,.b true,.go,.b true,.go,.b true,.b true,.go,.go,.go,.b true,.go,.b true,.go,.b true,.go,.b true,.go,.b true,.b true,.go,.go,.go,.b true,.go,.b true,.go,.b true,.b true,.go,.go,.go,.b true,.go,.go] (by kernel_rfl) (by kernel_rfl) ⟨rfl,hqsER19_1,rfl,rfl,rfl,rfl,(by show _≤(cI _).length; rw [cI_len]; omega),(by show _≤(cI _).length; rw [cI_len]; omega),⟨P,rfl,rfl⟩,⟨rfl,_,takeL,rfl⟩,⟨rfl,_,takeL,rfl⟩,(by have:=flt_le (mkB b) P.length; omega),(by rw [takeL]; have:=drL_le (c:=cT P) (q:=q) (d:=d) (n:=n) (C:=(flt (mkB b) P.length)); have:=flt_le (mkB b) P.length; omega),rfl,hqsER19_2,rfl,rfl,rfl,rfl,(by show _≤(cI _).length; rw [cI_len]; omega),(by show _≤(cI _).length; rw [cI_len]; omega),⟨P,rfl,rfl⟩,⟨rfl,_,takeL,rfl⟩,⟨rfl,_,takeL,rfl⟩,(by have:=flt_le (mkB b) P.length; omega),(by rw [takeL]; have:=drL_le (c:=cT P) (q:=q) (d:=d) (n:=n) (C:=(flt (mkB b) P.length)); have:=flt_le (mkB b) P.length; omega),rfl,hqsER19_2,rfl,rfl,(by show _≤(cI _).length; rw [cI_len]; omega),⟨P,rfl,rfl⟩,⟨rfl,_,takeL,rfl⟩,(by rw [takeL]; exact hI),(by have:=flt_le (mkB b) P.length; omega),rfl,(by rw [hqsER19_3]; rfl),trivial⟩ rfl) (Hd.en_o (by intro h; cases h) (Hd.en_eq (r:=(.bool .true)) (by rfl) (Hd.en_ret (v:=(.v (.bool .true))) (by kernel_rfl) rfl)))
  ·skip
   have ghqsER19_2:=eqI_false hqsER19_2
   exact absurd (show cdE n d q (cT P) P.length (List.take ((flt (mkB b) P.length).length * 1) (List.drop 0 (qO6_41 P b))) (flt (mkB b) P.length).length (((drV (cT P) q d (List.take ((flt (mkB b) P.length).length * 1) (List.drop 0 (qO6_41 P b))) (flt (mkB b) P.length).length n):Nat):Int) (List.take ((drL (cT P) q d (List.take ((flt (mkB b) P.length).length * 1) (List.drop 0 (qO6_41 P b))) (flt (mkB b) P.length).length n).length * 1) (List.drop 0 (cI (drL (cT P) q d (List.take ((flt (mkB b) P.length).length * 1) (List.drop 0 (qO6_41 P b))) (flt (mkB b) P.length).length n)))) (drL (cT P) q d (List.take ((flt (mkB b) P.length).length * 1) (List.drop 0 (qO6_41 P b))) (flt (mkB b) P.length).length n).length=0 from by rw [takeL,takeL]; exact dk_ok hI hv) (eqI_false hqsER19_2)
 ·skip
  have ghqsER19_1:=eqI_false hqsER19_1
  exact absurd (show eqI (if hoB (cT P) q d (List.take ((flt (mkB b) P.length).length * 1) (List.drop 0 (qO6_41 P b))) (flt (mkB b) P.length).length n=true then 0 else 18) 18=true from by rw [takeL,hho]; rfl) (by rw [hqsER19_1]; decide)
theorem sER_14 (n:Nat) (d q:Int) (y:Value) (P:PL) (b e1 e2 p:Int) (hw:Known pg (clsO wkO)) (hb:0≤b∧b≤4294967295) (hu:0≤e1∧e1≤255) (hv0:0≤e2∧e2≤255) (ht:0≤p∧p≤255) (hE:roE n d q (cT P) P.length=0) (h0:0 < (flt (mkB b) P.length).length) (hv:(drV (cT P) q d (qO6_41 P b) (flt (mkB b) P.length).length n) < n) (hl:0 < (drL (cT P) q d (qO6_41 P b) (flt (mkB b) P.length).length n).length) (hqsER7_1:(ltI 30 P.length)=false) (hqsER7_2:(eqI (roE n d q (cT P) P.length) 0)=true) (w:World) (hs:LN):Goes pg 129 sERK12 ((qO6_2 P b d e1 e2 n p q y)) (BaseW.H w hs) (OutH pg Try.f8 129 (.bool true) w):=by
 have hI:=icE_flt (st:=mkB b) hE
 obtain ⟨hm,⟨ha1,ha2,ha3⟩,hp0⟩:=roE_zero hE
 have hn:n≤1000:=by omega
 have hfl:=flt_24 (b:=b) hm
 have hho:=ho_vn hv
 have ghqsER7_1:=lF hqsER7_1
 have ghqsER7_2:=eqI_true hqsER7_2
 refine gS (by kernel_rfl) ?_
 exact gL isN_e (gT cm (known_l5r hw) 200 (T':=(qO6_1 P b d e1 e2 n p q y)) (e:=.normal) (ps:=[0 + (flt (mkB b) P.length).length * (0 + 1)≤((qO6_41 P b):List AV).length,IsT P.length (cT P),IsC (0 + 1) (flt (mkB b) P.length).length (List.take ((flt (mkB b) P.length).length * (0 + 1)) (List.drop 0 (qO6_41 P b))),icE n d q (cT P) P.length (List.take ((flt (mkB b) P.length).length * (0 + 1)) (List.drop 0 (qO6_41 P b))) (flt (mkB b) P.length).length=0,(flt (mkB b) P.length).length≤1000]) [.go,.go,.go,.go,.go,.go,.go] (by kernel_rfl) (by kernel_rfl) ⟨(by show _≤(cI _).length; rw [cI_len]; omega),⟨P,rfl,rfl⟩,⟨rfl,_,takeL,rfl⟩,(by rw [takeL]; exact hI),(by have:=flt_le (mkB b) P.length; omega),trivial⟩ rfl) (Hd.en_n (sER_17 n d q y P b e1 e2 p hw hb hu hv0 ht hE h0 hv hl hqsER7_1 hqsER7_2 w hs))
theorem sER_11 (n:Nat) (d q:Int) (y:Value) (P:PL) (b e1 e2 p:Int) (hw:Known pg (clsO wkO)) (hb:0≤b∧b≤4294967295) (hu:0≤e1∧e1≤255) (hv0:0≤e2∧e2≤255) (ht:0≤p∧p≤255) (hE:roE n d q (cT P) P.length=0) (h0:0 < (flt (mkB b) P.length).length) (hv:(drV (cT P) q d (qO6_41 P b) (flt (mkB b) P.length).length n) < n) (hl:0 < (drL (cT P) q d (qO6_41 P b) (flt (mkB b) P.length).length n).length) (hqsER7_1:(ltI 30 P.length)=false) (hqsER7_2:(eqI (roE n d q (cT P) P.length) 0)=true) (w:World) (hs:LN):Goes pg 129 sERK9 ((qO6_17 P b d e1 e2 n p q y)) (BaseW.H w hs) (OutH pg Try.f8 129 (.bool true) w):=by
 have hI:=icE_flt (st:=mkB b) hE
 obtain ⟨hm,⟨ha1,ha2,ha3⟩,hp0⟩:=roE_zero hE
 have hn:n≤1000:=by omega
 have hfl:=flt_24 (b:=b) hm
 have hho:=ho_vn hv
 have ghqsER7_1:=lF hqsER7_1
 have ghqsER7_2:=eqI_true hqsER7_2
 refine gS (by kernel_rfl) ?_
 exact gL isN_e (gT cm (known_l5r hw) 200 (T':=(qO6_2 P b d e1 e2 n p q y)) (e:=.normal) (ps:=[0 + (flt (mkB b) P.length).length * (0 + 1)≤((qO6_41 P b):List AV).length,IsT P.length (cT P),IsC (0 + 1) (flt (mkB b) P.length).length (List.take ((flt (mkB b) P.length).length * (0 + 1)) (List.drop 0 (qO6_41 P b))),icE n d q (cT P) P.length (List.take ((flt (mkB b) P.length).length * (0 + 1)) (List.drop 0 (qO6_41 P b))) (flt (mkB b) P.length).length=0,(flt (mkB b) P.length).length≤1000,0 < (flt (mkB b) P.length).length,0 < (drL (cT P) q d (List.take ((flt (mkB b) P.length).length * (0 + 1)) (List.drop 0 (qO6_41 P b))) (flt (mkB b) P.length).length n).length]) [.go,.go,.go,.go,.go,.go,.go,.go,.go] (by kernel_rfl) (by kernel_rfl) ⟨(by show _≤(cI _).length; rw [cI_len]; omega),⟨P,rfl,rfl⟩,⟨rfl,_,takeL,rfl⟩,(by rw [takeL]; exact hI),(by have:=flt_le (mkB b) P.length; omega),h0,(by rw [takeL]; exact hl),trivial⟩ rfl) (Hd.en_n (sER_14 n d q y P b e1 e2 p hw hb hu hv0 ht hE h0 hv hl hqsER7_1 hqsER7_2 w hs))
theorem sER_8 (n:Nat) (d q:Int) (y:Value) (P:PL) (b e1 e2 p:Int) (hw:Known pg (clsO wkO)) (hb:0≤b∧b≤4294967295) (hu:0≤e1∧e1≤255) (hv0:0≤e2∧e2≤255) (ht:0≤p∧p≤255) (hE:roE n d q (cT P) P.length=0) (h0:0 < (flt (mkB b) P.length).length) (hv:(drV (cT P) q d (qO6_41 P b) (flt (mkB b) P.length).length n) < n) (hl:0 < (drL (cT P) q d (qO6_41 P b) (flt (mkB b) P.length).length n).length) (hqsER7_1:(ltI 30 P.length)=false) (hqsER7_2:(eqI (roE n d q (cT P) P.length) 0)=true) (w:World) (hs:LN):Goes pg 129 sERK6 ((qO6_20 P b d e1 e2 n p q y)) (BaseW.H w hs) (OutH pg Try.f8 129 (.bool true) w):=by
 have hI:=icE_flt (st:=mkB b) hE
 obtain ⟨hm,⟨ha1,ha2,ha3⟩,hp0⟩:=roE_zero hE
 have hn:n≤1000:=by omega
 have hfl:=flt_24 (b:=b) hm
 have hho:=ho_vn hv
 have ghqsER7_1:=lF hqsER7_1
 have ghqsER7_2:=eqI_true hqsER7_2
 refine gS (by kernel_rfl) ?_
 exact gL isN_e (gT cm (known_l5r hw) 200 (T':=(qO6_17 P b d e1 e2 n p q y)) (e:=.normal) (ps:=[FreeL (cT P),IsT P.length (cT P),P.length≤24,0≤b∧b≤4294967295,0 < (flt (mkB b) P.length).length]) [.go,.go,.go] (by kernel_rfl) (by kernel_rfl) ⟨(fP (cT_plain P)),⟨P,rfl,rfl⟩,hm,hb,h0,trivial⟩ rfl) (Hd.en_n (sER_11 n d q y P b e1 e2 p hw hb hu hv0 ht hE h0 hv hl hqsER7_1 hqsER7_2 w hs))
theorem sER_5 (n:Nat) (d q:Int) (y:Value) (P:PL) (b e1 e2 p:Int) (hw:Known pg (clsO wkO)) (hb:0≤b∧b≤4294967295) (hu:0≤e1∧e1≤255) (hv0:0≤e2∧e2≤255) (ht:0≤p∧p≤255) (hE:roE n d q (cT P) P.length=0) (h0:0 < (flt (mkB b) P.length).length) (hv:(drV (cT P) q d (qO6_41 P b) (flt (mkB b) P.length).length n) < n) (hl:0 < (drL (cT P) q d (qO6_41 P b) (flt (mkB b) P.length).length n).length) (w:World) (hs:LN):Goes pg 129 sERK3 ((qO6_21 P b d e1 e2 n p q y)) (BaseW.H w hs) (OutH pg Try.f8 129 (.bool true) w):=by
 have hI:=icE_flt (st:=mkB b) hE
 obtain ⟨hm,⟨ha1,ha2,ha3⟩,hp0⟩:=roE_zero hE
 have hn:n≤1000:=by omega
 have hfl:=flt_24 (b:=b) hm
 have hho:=ho_vn hv
 refine gS (by kernel_rfl) ?_
 rcases bE (ltI 30 P.length) with hqsER7_1 | hqsER7_1
 ·skip
  have ghqsER7_1:=lT hqsER7_1
  exfalso
  have h9:=lT hqsER7_1
  omega
 ·skip
  have ghqsER7_1:=lF hqsER7_1
  rcases bE (eqI (roE n d q (cT P) P.length) 0) with hqsER7_2 | hqsER7_2
  ·skip
   have ghqsER7_2:=eqI_true hqsER7_2
   exact gL isN_e (gT cm (known_l5r hw) 200 (T':=(qO6_20 P b d e1 e2 n p q y)) (e:=.normal) (ps:=[IsT P.length (cT P),(!ltI 30 P.length)=true,true=true,IsT P.length (cT P),true=true,(!eqI (roE n d q (cT P) P.length) 0)=false]) [.go,.go,.go,.go,.go,.go,.b true,.go,.b true,.b true,.go,.go,.go,.go,.b false] (by kernel_rfl) (by kernel_rfl) ⟨⟨P,rfl,rfl⟩,(by rw [hqsER7_1]; rfl),rfl,⟨P,rfl,rfl⟩,rfl,(by rw [hqsER7_2]; rfl),trivial⟩ rfl) (Hd.en_n (sER_8 n d q y P b e1 e2 p hw hb hu hv0 ht hE h0 hv hl hqsER7_1 hqsER7_2 w hs))
  ·skip
   have ghqsER7_2:=eqI_false hqsER7_2
   exact absurd hE (eqI_false hqsER7_2)
theorem sER_2 (n:Nat) (d q:Int) (y:Value) (P:PL) (b e1 e2 p:Int) (hw:Known pg (clsO wkO)) (hb:0≤b∧b≤4294967295) (hu:0≤e1∧e1≤255) (hv0:0≤e2∧e2≤255) (ht:0≤p∧p≤255) (hE:roE n d q (cT P) P.length=0) (h0:0 < (flt (mkB b) P.length).length) (hv:(drV (cT P) q d (qO6_41 P b) (flt (mkB b) P.length).length n) < n) (hl:0 < (drL (cT P) q d (qO6_41 P b) (flt (mkB b) P.length).length n).length) (w:World) (hs:LN):Goes pg 129 sERK1 ((qO6_24 P b d e1 e2 n p q y)) (BaseW.H w hs) (OutH pg Try.f8 129 (.bool true) w):=by
 have hI:=icE_flt (st:=mkB b) hE
 obtain ⟨hm,⟨ha1,ha2,ha3⟩,hp0⟩:=roE_zero hE
 have hn:n≤1000:=by omega
 have hfl:=flt_24 (b:=b) hm
 have hho:=ho_vn hv
 refine gS (by kernel_rfl) ?_
 exact gL isN_e (gT cm (known_l5r hw) 200 (T':=(qO6_21 P b d e1 e2 n p q y)) (e:=.normal) (ps:=[]) [.go,.go,.go] (by kernel_rfl) (by kernel_rfl) trivial rfl) (Hd.en_n (sER_5 n d q y P b e1 e2 p hw hb hu hv0 ht hE h0 hv hl w hs))
theorem sei_R (n:Nat) (d q:Int) (y:Value) (P:PL) (b e1 e2 p:Int) (hw:Known pg (clsO wkO)) (hb:0≤b∧b≤4294967295) (hu:0≤e1∧e1≤255) (hv0:0≤e2∧e2≤255) (ht:0≤p∧p≤255) (hE:roE n d q (cT P) P.length=0) (h0:0 < (flt (mkB b) P.length).length) (hv:(drV (cT P) q d (qO6_41 P b) (flt (mkB b) P.length).length n) < n) (hl:0 < (drL (cT P) q d (qO6_41 P b) (flt (mkB b) P.length).length n).length):GivesA pg 8 [(.agg [.v (.int .i64 n),.v (.int .i64 d),.v (.int .i64 q),.xl y P.length 3 (cT P)]),(.v (.int .u32 b)),(.agg [.v (.int .u8 e1),.v (.int .u8 e2)]),(.v (.int .u8 p))] (.bool true) :=
 givesA_partsH 129 Try.func8 (by kernel_rfl) (by kernel_rfl) (by kernel_rfl) (fun w=>goes_less (by kernel_rfl) (by kernel_rfl) (by kernel_rfl) (by kernel_rfl) (sER_2 n d q y P b e1 e2 p hw hb hu hv0 ht hE h0 hv hl w []))
theorem law_either (hw:Known pg (clsO wkO)) (n d q:Int) (y:Value) (P:PL) (b e1 e2 p:Int) (hb:0≤b∧b≤4294967295) (hu:0≤e1∧e1≤255) (hv0:0≤e2∧e2≤255) (ht:0≤p∧p≤255):GivesA pg 8 [(.agg [.v (.int .i64 n),.v (.int .i64 d),.v (.int .i64 q),.xl y P.length 3 (cT P)]),(.v (.int .u32 b)),(.agg [.v (.int .u8 e1),.v (.int .u8 e2)]),(.v (.int .u8 p))] (.bool true):=by
 by_cases h30:30 < P.length
 ·exact sei_P n d q y P b e1 e2 p hw hb hu hv0 ht h30
 by_cases hE:roE n d q (cT P) P.length=0
 ·obtain ⟨n,rfl⟩:∃ k:Nat,n=((k:Nat):Int):=⟨n.toNat,by have h9:=(roE_zero hE).2.1.1; omega⟩
  rcases Nat.eq_zero_or_pos (flt (mkB b) P.length).length with h0 | h0
  ·exact sei_a n d q y P b e1 e2 p hw hb hu hv0 ht hE h0
  ·by_cases hv:(drV (cT P) q d (qO6_41 P b) (flt (mkB b) P.length).length n)=n
   ·exact sei_5 n d q y P b e1 e2 p hw hb hu hv0 ht hE h0 hv
   ·have hv2:(drV (cT P) q d (qO6_41 P b) (flt (mkB b) P.length).length n) < n:=by have h9:(drV (cT P) q d (qO6_41 P b) (flt (mkB b) P.length).length n)≤n:=fst_le _ _; omega
    rcases Nat.eq_zero_or_pos (drL (cT P) q d (qO6_41 P b) (flt (mkB b) P.length).length n).length with hl | hl
    ·exact sei_n n d q y P b e1 e2 p hw hb hu hv0 ht hE h0 hv2 hl
    ·exact sei_R n d q y P b e1 e2 p hw hb hu hv0 ht hE h0 hv2 hl
 ·exact sei_r n d q y P b e1 e2 p hw hb hu hv0 ht (by omega) hE
end
end Go.Proofs.Ytnphldmnakbknaa
