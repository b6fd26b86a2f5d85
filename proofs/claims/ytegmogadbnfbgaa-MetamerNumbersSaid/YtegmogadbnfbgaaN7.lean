import Derived.Test.YtegmogadbnfbgaaN6
import Derived.Test.YtegmogadbnfbgaaGu
set_option maxHeartbeats 4000000
set_option linter.all false
/- What is known of checks and numbers. -/
namespace Go.Proofs.Ytegmogadbnfbgaa
open Go Ev
noncomputable section
section
variable (M : List Int) (X : List (Value × List Int)) (Y : List Int) (i j : Nat) (u ul z : Value)
@[reducible] def qN7_18:Nat×Ev.AV:=(1,(.xl (z) (M.length) 1 (cI M)))
@[reducible] def qN7_17:Nat×Ev.AV:=(6,(.v (.int .i64 i)))
@[reducible] def qN7_15:Nat×Ev.AV:=(7,(.v (.int .i64 (((j + 1):Nat):Int))))
@[reducible] def qN7_11:Nat×Ev.AB:=(0,(.cells [(.xl (u) (X.length) 1 (cRw X)),(.xl (ul) (Y.length) 1 (cI Y))] 29))
@[reducible] def qN7_14:=(cI (tI (thB (nuP (cRw X) (cI Y) (cI M)) M.length i j) 3))
@[reducible] def qN7_1:Ev.Lit:=⟨[(qN7_18 M z),(2,(.ptr 0 0)),(5,(.sl 1 0 3 3)),(qN7_17 i),(qN7_15 j)],[],2,[(qN7_11 X Y u ul),(1,(.cells (splice (qN7_14 M X Y i j) (0 + i * 1) [(.v (.int .i64 (intAt (qN7_14 M X Y i j) (0 + i * 1) + intAt (xlC (cRw X) (i * 1)) (j * 1) * intAt (cI Y) (j * 1) * intAt (cI M) (j * 1))))]) 2))]⟩
@[reducible] def qN7_12:Nat×Ev.AB:=(1,(.cells (cI (tI (thA (nuP (cRw X) (cI Y) (cI M)) M.length i) 3)) 2))
@[reducible] def qN7_2:Ev.Lit:=⟨[(qN7_18 M z),(2,(.ptr 0 0)),(5,(.sl 1 0 3 3)),(qN7_17 i),(7,(.v (.int .i64 (.ofNat 0))))],[],2,[(qN7_11 X Y u ul),(qN7_12 M X Y i)]⟩
@[reducible] def qN7_10:Nat×Ev.AB:=(1,(.cells [(.v (.int .i64 (.ofNat 0))),(.v (.int .i64 (.ofNat 0))),(.v (.int .i64 (.ofNat 0)))] 2))
@[reducible] def qN7_3:Ev.Lit:=⟨[(qN7_18 M z),(2,(.ptr 0 0)),(5,(.sl 1 0 3 3)),(6,(.v (.int .i64 (.ofNat 0))))],[],2,[(qN7_11 X Y u ul),qN7_10]⟩
@[reducible] def qN7_16:Nat×Ev.AV:=(6,(.v (.int .i64 (((i + 1):Nat):Int))))
@[reducible] def qN7_4:Ev.Lit:=⟨[(qN7_18 M z),(2,(.ptr 0 0)),(5,(.sl 1 0 3 3)),(qN7_16 i)],[],2,[(qN7_11 X Y u ul),(1,(.cells (cI (tI (thB (nuP (cRw X) (cI Y) (cI M)) M.length i M.length) 3)) 2))]⟩
@[reducible] def qN7_5:Ev.Lit:=⟨[(qN7_18 M z),(2,(.ptr 0 0)),(5,(.sl 1 0 3 3)),(qN7_17 i)],[],2,[(qN7_11 X Y u ul),(1,(.cells (cI (tI (thB (nuP (cRw X) (cI Y) (cI M)) M.length i (M.length)) 3)) 2))]⟩
@[reducible] def qN7_6:Ev.Lit:=⟨[(qN7_18 M z),(2,(.ptr 0 0)),(5,(.sl 1 0 3 3)),(qN7_17 i)],[],2,[(qN7_11 X Y u ul),(qN7_12 M X Y i)]⟩
@[reducible] def qN7_7:Ev.Lit:=⟨[(qN7_18 M z),(2,(.ptr 0 0)),(5,(.sl 1 0 3 3))],[],2,[(qN7_11 X Y u ul),qN7_10]⟩
@[reducible] def qN7_8:Ev.Lit:=⟨[(qN7_18 M z),(2,(.ptr 0 0))],[],1,[(qN7_11 X Y u ul)]⟩
@[reducible] def qN7_9:Ev.Lit:=⟨[(5,(.sl 1 0 3 3))],[],2,[(1,(.cells (cI (tI (thA (nuP (cRw X) (cI Y) (cI M)) M.length (3)) 3)) 2))]⟩
@[reducible] def qN7_13:Ev.AB:=(.cells (cI (tI (thA (nuP (cRw X) (cI Y) (cI M)) M.length 3) 3)) 2)
end
theorem ext_true {u ul:Value} (X:List (Value×List Int)) (Y:List Int):Ext (.agg [.xl u X.length 1 (cRw X),.xl ul Y.length 1 (cI Y)]):=ext_agg (extL_cons (ext_xl (extL_rows X)) (extL_cons (ext_xl (extL_plain (cI_plain Y))) extL_nil))
def gcS:List AV→Option (Res1×List Prop):=fun vs =>
 match vs with
 | [.agg [.xl y m k1 cE,.xl yl n k2 cL]]=>some (.val (.v (.int .i64 (ccE cE m cL n))),[IsEq k1 cE m,IsPr k2 n cL,m≤1000])
 | _=>none
def gcO:OrcH:=extOrc 20 gcS
theorem known_gc:Known Try.prog (clsO gcO):=known_ext (fun vs r ps h hp=>by
 unfold gcS at h
 split at h
 ·cases h
  obtain ⟨⟨rfl,E,rfl,rfl⟩,⟨rfl,L,rfl,rfl⟩,h1,-⟩:=hp
  exact ⟨extL_cons (ext_case E L) extL_nil,_,rfl,cco_g _ E _ L h1⟩
 ·cases h)
def grS:List AV→Option (Res1×List Prop):=fun vs =>
 match vs with
 | [.agg [.xl y m k1 cE,.xl yl n k2 cL]]=>some (.val (.v (.int .i64 (ccE cE m cL n))),[IsEq k1 cE m,IsPr k2 n cL,m≤1000])
 | _=>none
def grO:OrcH:=extOrc 21 grS
theorem known_gr:Known Try.prog (clsO grO):=known_ext (fun vs r ps h hp=>by
 unfold grS at h
 split at h
 ·cases h
  obtain ⟨⟨rfl,E,rfl,rfl⟩,⟨rfl,L,rfl,rfl⟩,h1,-⟩:=hp
  exact ⟨extL_cons (ext_case E L) extL_nil,_,rfl,ccr_g _ E _ L h1⟩
 ·cases h)
def gtS:List AV→Option (Res1×List Prop):=fun vs =>
 match vs with
 | [.agg [.xl y m k1 cE,.xl yl n k2 cL],.agg [.xl u mx k3 cX,.xl ul nx k4 cY]]=>some (.val (.v (.int .i64 (ctE cE cL n cX mx cY nx))),[IsEq k1 cE m,IsPr k2 n cL,IsEi k3 cX mx,IsI k4 nx cY,ccE cE m cL n=0,mx≤1000])
 | _=>none
def gtO:OrcH:=extOrc 52 gtS
theorem known_gt:Known Try.prog (clsO gtO):=known_ext (fun vs r ps h hp=>by
 unfold gtS at h
 split at h
 ·cases h
  obtain ⟨⟨rfl,E,rfl,rfl⟩,⟨rfl,L,rfl,rfl⟩,⟨rfl,X,rfl,rfl⟩,⟨rfl,Y,rfl,rfl⟩,h1,h2,-⟩:=hp
  exact ⟨extL_cons (ext_case E L) (extL_cons (ext_true X Y) extL_nil),_,rfl,cto_g _ E _ L _ X _ Y h1 h2⟩
 ·cases h)
def gxS:List AV→Option (Res1×List Prop):=fun vs =>
 match vs with
 | [.agg [.xl y m k1 cE,.xl yl n k2 cL],.agg [.xl u mx k3 cX,.xl ul nx k4 cY]]=>some (.val (.v (.int .i64 (ctE cE cL n cX mx cY nx))),[IsEq k1 cE m,IsPr k2 n cL,IsEi k3 cX mx,IsI k4 nx cY,ccE cE m cL n=0,mx≤1000])
 | _=>none
def gxO:OrcH:=extOrc 30 gxS
theorem known_gx:Known Try.prog (clsO gxO):=known_ext (fun vs r ps h hp=>by
 unfold gxS at h
 split at h
 ·cases h
  obtain ⟨⟨rfl,E,rfl,rfl⟩,⟨rfl,L,rfl,rfl⟩,⟨rfl,X,rfl,rfl⟩,⟨rfl,Y,rfl,rfl⟩,h1,h2,-⟩:=hp
  exact ⟨extL_cons (ext_case E L) (extL_cons (ext_true X Y) extL_nil),_,rfl,ctr_g _ E _ L _ X _ Y h1 h2⟩
 ·cases h)
def gpS:List AV→Option (Res1×List Prop):=fun vs =>
 match vs with
 | [.agg [.xl y m k1 cE,.xl yl n k2 cL],.xl z r k5 cM]=>some (.val (.v (.int .i64 (chE n cM r))),[IsEq k1 cE m,IsPr k2 n cL,IsI k5 r cM,n≤1000])
 | _=>none
def gpO:OrcH:=extOrc 56 gpS
theorem known_gp:Known Try.prog (clsO gpO):=known_ext (fun vs r ps h hp=>by
 unfold gpS at h
 split at h
 ·cases h
  obtain ⟨⟨rfl,E,rfl,rfl⟩,⟨rfl,L,rfl,rfl⟩,⟨rfl,M,rfl,rfl⟩,h1,-⟩:=hp
  exact ⟨extL_cons (ext_case E L) (extL_cons (ext_xl (extL_plain (cI_plain M))) extL_nil),_,rfl,cp_g _ E _ L _ M h1⟩
 ·cases h)
theorem nuOK_of {X:List (Value×List Int)} {Y M:List Int} {cE cL:List AV} {m n:Nat} (hC:ccE cE m cL n=0) (hT:ctE cE cL n (cRw X) X.length (cI Y) Y.length=0) (hH:chE n (cI M) M.length=0):NuOK 1 X.length 1 Y.length 1 M.length (cRw X) (cI Y) (cI M) n:=by
 obtain ⟨-,-,-,h3,h4⟩:=ccE_zero hC
 obtain ⟨t1,t2,t3,t4,t5⟩:=ctE_zero hT
 obtain ⟨m1,m2⟩:=chE_zero hH
 rw [m1] at m2
 refine ⟨X,Y,M,⟨rfl,rfl,rfl⟩,⟨rfl,rfl,rfl⟩,⟨rfl,rfl,rfl⟩,t2,t3,t1,m1,fun i hi b hb=>?_,fun b hb=>?_,fun b hb=>afB_true.1 m2 b hb⟩
 ·have q1:=h4 i hi b hb
  have q2:=t5 i hi b hb
  unfold rngAt at q1
  unfold wiAt at q2
  omega
 ·have q1:=h3 b hb
  have q2:=t4 b hb
  unfold rngAt at q1
  unfold wiAt at q2
  omega
def gnS:List AV→Option (Res1×List Prop):=fun vs =>
 match vs with
 | [.agg [.xl y m k1 cE,.xl yl n k2 cL,.fn (.func f) lz lc],.agg [.xl u mx k3 cX,.xl ul nx k4 cY]]=>match lz,lc,Nat.beq f 78 with
  | [.xl z r k5 cM],[],true=>some (.val (.agg [.v (.int .i64 (smF (nuP cX cY cM 0) n)),.v (.int .i64 (smF (nuP cX cY cM 1) n)),.v (.int .i64 (smF (nuP cX cY cM 2) n))]),[IsEq k1 cE m,IsPr k2 n cL,n≤8,NuOK k3 mx k4 nx k5 r cX cY cM n])
  | _,_,_=>none
 | _=>none
def gnO:OrcH:=extOrc 54 gnS
theorem ext_fn {g:FuncId} {l:List AV} (h:ExtL l):Ext (.fn (.func g) l []):=fun H σ w x hs hx=>by
 simp only [den,denL] at hx ⊢
 cases e:denL σ l with
 | none=>rw [e] at hx; cases hx
 | some us =>
  rw [e] at hx
  rw [h H σ w us hs e]
  exact hx
theorem known_gn:Known Try.prog (clsO gnO):=known_ext (fun vs r ps h hp=>by
 unfold gnS at h
 split at h
 ·split at h
  ·rename_i e1
   cases h
   obtain ⟨⟨rfl,E,rfl,rfl⟩,⟨rfl,L,rfl,rfl⟩,h8,⟨X,Y,M,⟨rfl,rfl,rfl⟩,⟨rfl,rfl,rfl⟩,⟨rfl,rfl,rfl⟩,h1,h2,h3,h4,h5,h6,h7⟩,-⟩:=hp
   rw [Nat.eq_of_beq_eq_true e1]
   exact ⟨extL_cons (ext_agg (extL_cons (ext_xl (extL_rowsQ E)) (extL_cons (ext_xl (extL_plain (cR_plain L))) (extL_cons (ext_fn (extL_cons (ext_xl (extL_plain (cI_plain M))) extL_nil)) extL_nil)))) (extL_cons (ext_true X Y) extL_nil),_,rfl,nn_g _ E _ L _ X _ Y _ M h8 h1 h2 h3 h4 h5 h6 h7⟩
  ·cases h
 ·cases h)
noncomputable def srK1:Code:=bodyC Try.f31
noncomputable def srK3:Code:=tlC srK1
noncomputable def srK6:Code:=tlC srK3
noncomputable def srK9:Code:=tlC srK6
noncomputable def srK10:Code:=(hdC srK6)
noncomputable def srK12:Code:=tlC srK10
noncomputable def srK16:Code:=loopC srK12
noncomputable def srK19:Code:=tlC srK16
noncomputable def srK22:Code:=tlC srK19
noncomputable def srK24:Code:=blkB (hdC srK19)
noncomputable def srK26:Code:=tlC srK24
noncomputable def srK30:Code:=loopC srK26
theorem sr_33 (u:Value) (X:List (Value×List Int)) (ul:Value) (Y:List Int) (z:Value) (M:List Int) (hn8:M.length≤8) (hx3:X.length=3) (hxr:∀ i,i < 3→xlN (cRw X) (i * 1)=M.length) (hy:Y.length=M.length) (hx1:∀ i,i < 3→∀ b,b < M.length→0≤intAt (xlC (cRw X) (i * 1)) (b * 1)∧intAt (xlC (cRw X) (i * 1)) (b * 1)≤100) (hy1:∀ b,b < M.length→0≤intAt (cI Y) (b * 1)∧intAt (cI Y) (b * 1)≤100) (hm1:∀ b,b < M.length→0≤intAt (cI M) (b * 1)∧intAt (cI M) (b * 1)≤1000) (i:Nat) (hi1:i≤3) (hi2:True) (hqsr20_1:(ltI i 3)=true) (hqsr32_1:(ltI M.length M.length)=false) (v:BaseW) (eb:Nat→Option Nat) (ec:Nat→Nat) (hs:List Nat):Goes Try.prog 45 srK22 ((qN7_5 M X Y i u ul z)) (BaseW.H (bw v 0 eb ec) hs) (Hd.StepC Try.prog 45 0 (fun i:{i:Nat // i≤3∧True}=>⟨[(qN7_18 M z),(2,(.ptr 0 0)),(5,(.sl 1 0 3 3)),(6,(.v (.int .i64 i.1)))],[],2,[(qN7_11 X Y u ul),(1,(.cells (cI (tI (thA (nuP (cRw X) (cI Y) (cI M)) M.length i.1) 3)) 2))]⟩) (fun i:{i:Nat // i≤3∧True}=>3 - i.1) srK9 (bw v 0 eb ec) (OutM Try.prog Try.f31 45 ((.sl 0 0 3 3)) [(qN7_13 M X Y)] (bw v 0 eb ec)) (⟨i,hi1,hi2⟩:{i:Nat // i≤3∧True})):=by
 have hcl_Y:=cI_len Y
 have hcl_M:=cI_len M
 have ghqsr20_1:=ltI_true hqsr20_1
 have ghqsr32_1:=ltI_false hqsr32_1
 exact goes_leafA isN_e (goes_told Try.checked.mixed (known_none) 200 (T':=(qN7_4 M X Y i u ul z)) (e:=.normal) (ps:=[inR IntKind.i64 (((i:Nat):Int) + 1)]) [.go,.go,.go] (by kernel_rfl) (by kernel_rfl) ⟨(by show -9223372036854775808≤_∧_≤9223372036854775807; constructor <;> omega),trivial⟩ rfl) (Hd.en_on (⟨i + 1,by omega,trivial⟩) (by show 3 - (i + 1) < 3 - i; omega) (show ((qN7_4 M X Y i u ul z):Ev.Lit)=⟨[(qN7_18 M z),(2,(.ptr 0 0)),(5,(.sl 1 0 3 3)),(qN7_16 i)],[],2,[(qN7_11 X Y u ul),(1,(.cells (cI (tI (thA (nuP (cRw X) (cI Y) (cI M)) M.length (i + 1)) 3)) 2))]⟩ from by have hz_:=congrArg (fun (xq0:Ev.AB)=>(⟨[(qN7_18 M z),(2,(.ptr 0 0)),(5,(.sl 1 0 3 3)),(qN7_16 i)],[],2,[(qN7_11 X Y u ul),(1,xq0)]⟩:Ev.Lit)) (congrArg (fun z=>Ev.AB.cells z 2) (show ((cI (tI (thB (nuP (cRw X) (cI Y) (cI M)) M.length i M.length) 3)):List Ev.AV)=(cI (tI (thA (nuP (cRw X) (cI Y) (cI M)) M.length (i + 1)) 3)) from by rw [thB_end])); exact hz_))
theorem sr_31 (u:Value) (X:List (Value×List Int)) (ul:Value) (Y:List Int) (z:Value) (M:List Int) (hn8:M.length≤8) (hx3:X.length=3) (hxr:∀ i,i < 3→xlN (cRw X) (i * 1)=M.length) (hy:Y.length=M.length) (hx1:∀ i,i < 3→∀ b,b < M.length→0≤intAt (xlC (cRw X) (i * 1)) (b * 1)∧intAt (xlC (cRw X) (i * 1)) (b * 1)≤100) (hy1:∀ b,b < M.length→0≤intAt (cI Y) (b * 1)∧intAt (cI Y) (b * 1)≤100) (hm1:∀ b,b < M.length→0≤intAt (cI M) (b * 1)∧intAt (cI M) (b * 1)≤1000) (i:Nat) (hi1:i≤3) (hi2:True) (hqsr20_1:(ltI i 3)=true) (j:Nat) (hj1:j≤M.length) (hj2:True) (v:BaseW) (eb:Nat→Option Nat) (ec:Nat→Nat) (hs:List Nat):Goes Try.prog 45 srK30 (⟨[(qN7_18 M z),(2,(.ptr 0 0)),(5,(.sl 1 0 3 3)),(qN7_17 i),(7,(.v (.int .i64 j)))],[],2,[(qN7_11 X Y u ul),(1,(.cells (qN7_14 M X Y i j) 2))]⟩) (BaseW.H (bw v 0 eb ec) hs) (Hd.StepL 45 2 (fun j:{j:Nat // j≤M.length∧True}=>⟨[(qN7_18 M z),(2,(.ptr 0 0)),(5,(.sl 1 0 3 3)),(qN7_17 i),(7,(.v (.int .i64 j.1)))],[],2,[(qN7_11 X Y u ul),(1,(.cells (cI (tI (thB (nuP (cRw X) (cI Y) (cI M)) M.length i j.1) 3)) 2))]⟩) (fun j:{j:Nat // j≤M.length∧True}=>M.length - j.1) (bw v 0 eb ec) (Hd.AfterB Try.prog 45 1 srK22 (bw v 0 eb ec) (Hd.StepC Try.prog 45 0 (fun i:{i:Nat // i≤3∧True}=>⟨[(qN7_18 M z),(2,(.ptr 0 0)),(5,(.sl 1 0 3 3)),(6,(.v (.int .i64 i.1)))],[],2,[(qN7_11 X Y u ul),(1,(.cells (cI (tI (thA (nuP (cRw X) (cI Y) (cI M)) M.length i.1) 3)) 2))]⟩) (fun i:{i:Nat // i≤3∧True}=>3 - i.1) srK9 (bw v 0 eb ec) (OutM Try.prog Try.f31 45 ((.sl 0 0 3 3)) [(qN7_13 M X Y)] (bw v 0 eb ec)) (⟨i,hi1,hi2⟩:{i:Nat // i≤3∧True}))) (⟨j,hj1,hj2⟩:{j:Nat // j≤M.length∧True})):=by
 have hcl_Y:=cI_len Y
 have hcl_M:=cI_len M
 have ghqsr20_1:=ltI_true hqsr20_1
 rcases Bool.eq_false_or_eq_true (ltI j M.length) with hqsr32_1 | hqsr32_1
 ·skip
  have ghqsr32_1:=ltI_true hqsr32_1
  exact goes_leafA isN_e (goes_told Try.checked.mixed (known_none) 200 (T':=(qN7_1 M X Y i j u ul z)) (e:=.normal) (ps:=[ltI j M.length=true,i < 3,loadL Try.prog (qN7_14 M X Y i j) (0 + i * 1) 2=some (AV.v (Value.int IntKind.i64 (intAt (qN7_14 M X Y i j) (0 + i * 1)))),i < X.length,loadL Try.prog (cRw X) (i * 1) 27=some (AV.xl (xlY (cRw X) (i * 1)) (xlN (cRw X) (i * 1)) 1 (xlC (cRw X) (i * 1))),j < xlN (cRw X) (i * 1),loadL Try.prog (xlC (cRw X) (i * 1)) (j * 1) 2=some (AV.v (Value.int IntKind.i64 (intAt (xlC (cRw X) (i * 1)) (j * 1)))),j < Y.length,loadL Try.prog (cI Y) (j * 1) 2=some (AV.v (Value.int IntKind.i64 (intAt (cI Y) (j * 1)))),inR IntKind.i64 (intAt (xlC (cRw X) (i * 1)) (j * 1) * intAt (cI Y) (j * 1)),j < M.length,loadL Try.prog (cI M) (j * 1) 2=some (AV.v (Value.int IntKind.i64 (intAt (cI M) (j * 1)))),inR IntKind.i64 (intAt (xlC (cRw X) (i * 1)) (j * 1) * intAt (cI Y) (j * 1) * intAt (cI M) (j * 1)),inR IntKind.i64 (intAt (qN7_14 M X Y i j) (0 + i * 1) + intAt (xlC (cRw X) (i * 1)) (j * 1) * intAt (cI Y) (j * 1) * intAt (cI M) (j * 1)),i < 3,0 + i * 1 + ([(.v (.int .i64 (intAt (qN7_14 M X Y i j) (0 + i * 1) + intAt (xlC (cRw X) (i * 1)) (j * 1) * intAt (cI Y) (j * 1) * intAt (cI M) (j * 1))))]:List AV).length≤((qN7_14 M X Y i j):List AV).length,inR IntKind.i64 (((j:Nat):Int) + 1)]) [.go,.go,.go,.go,.b true,.go,.go,.sym,.sym,.go,.go,.go,.sym,.sym,.go,.sym,.sym,.go,.go,.go,.sym,.sym,.go,.go,.go,.sym,.sym,.go,.go,.sym,.sym,.go,.go,.go] (by kernel_rfl) (by kernel_rfl) ⟨hqsr32_1,(by omega),(cI_load (by rw [tI_len]; omega) 2 (Try.underlying2) rfl),(by omega),(by rw [Nat.mul_one]; exact cRw_load (by omega) 27 (Try.underlying27) rfl),(by rw [hxr i (by omega)]; omega),(by have h8:=hxr i (by omega); obtain ⟨-,L9,e9,n9⟩:=cRw_isI (R:=X) (i:=i) (by omega); rw [e9,Nat.mul_one]; exact cI_load (by omega) 2 (Try.underlying2) rfl),(by omega),(by rw [Nat.mul_one]; exact cI_load (show _ < Y.length by omega) 2 (Try.underlying2) rfl),(by have h9:=mul_bd3 (hx1 i (by omega) j (by omega)) (hy1 j (by omega)) ⟨by have:=(hm1 j (by omega)).1; omega,(hm1 j (by omega)).2⟩; show -9223372036854775808≤_∧_≤9223372036854775807; constructor <;> omega),(by omega),(by rw [Nat.mul_one]; exact cI_load (show _ < M.length by omega) 2 (Try.underlying2) rfl),(by have h9:=mul_bd3 (hx1 i (by omega) j (by omega)) (hy1 j (by omega)) ⟨by have:=(hm1 j (by omega)).1; omega,(hm1 j (by omega)).2⟩; show -9223372036854775808≤_∧_≤9223372036854775807; constructor <;> omega),(by rw [thB_at (by omega)]; have h9:=smF_bd (p:=nuP (cRw X) (cI Y) (cI M) i) (m:=10000000) (n:=j) (fun b hb=>by have:=(mul_bd3 (hx1 i (by omega) b (by omega)) (hy1 b (by omega)) ⟨by have:=(hm1 b (by omega)).1; omega,(hm1 b (by omega)).2⟩).2; exact this); have h8:=(mul_bd3 (hx1 i (by omega) j (by omega)) (hy1 j (by omega)) ⟨by have:=(hm1 j (by omega)).1; omega,(hm1 j (by omega)).2⟩).2; unfold nuP at *; show -9223372036854775808≤_∧_≤9223372036854775807; constructor <;> omega),(by omega),(by show 0 + i * 1 + 1≤_; rw [cI_len,tI_len]; omega),(by show -9223372036854775808≤_∧_≤9223372036854775807; constructor <;> omega),trivial⟩ rfl) (Hd.en_tn (⟨j + 1,by omega,trivial⟩) (by show M.length - (j + 1) < M.length - j; omega) (show ((qN7_1 M X Y i j u ul z):Ev.Lit)=⟨[(qN7_18 M z),(2,(.ptr 0 0)),(5,(.sl 1 0 3 3)),(qN7_17 i),(qN7_15 j)],[],2,[(qN7_11 X Y u ul),(1,(.cells (cI (tI (thB (nuP (cRw X) (cI Y) (cI M)) M.length i (j + 1)) 3)) 2))]⟩ from by have hz_:=congrArg (fun (xq0:Ev.AB)=>(⟨[(qN7_18 M z),(2,(.ptr 0 0)),(5,(.sl 1 0 3 3)),(qN7_17 i),(qN7_15 j)],[],2,[(qN7_11 X Y u ul),(1,xq0)]⟩:Ev.Lit)) (congrArg (fun z=>Ev.AB.cells z 2) (show ((splice (qN7_14 M X Y i j) (0 + i * 1) [(.v (.int .i64 (intAt (qN7_14 M X Y i j) (0 + i * 1) + intAt (xlC (cRw X) (i * 1)) (j * 1) * intAt (cI Y) (j * 1) * intAt (cI M) (j * 1))))]):List Ev.AV)=(cI (tI (thB (nuP (cRw X) (cI Y) (cI M)) M.length i (j + 1)) 3)) from by (refine (thB_step (i:=i) (j:=j) (by omega) ?_); rw [thB_at (i:=i) (by omega)]; rfl))); exact hz_))
 ·skip
  have ghqsr32_1:=ltI_false hqsr32_1
  obtain rfl:j=M.length:=by omega
  exact goes_leafA isX_e (goes_told Try.checked.mixed (known_none) 200 (T':=(qN7_5 M X Y i u ul z)) (e:=.exit 2) (ps:=[ltI M.length M.length=false]) [.go,.go,.go,.go,.b false] (by kernel_rfl) (by kernel_rfl) ⟨hqsr32_1,trivial⟩ rfl) (Hd.en_tx (Hd.en_bn (sr_33 u X ul Y z M hn8 hx3 hxr hy hx1 hy1 hm1 i hi1 hi2 hqsr20_1 hqsr32_1 v eb ec hs)))
theorem sr_29 (u:Value) (X:List (Value×List Int)) (ul:Value) (Y:List Int) (z:Value) (M:List Int) (hn8:M.length≤8) (hx3:X.length=3) (hxr:∀ i,i < 3→xlN (cRw X) (i * 1)=M.length) (hy:Y.length=M.length) (hx1:∀ i,i < 3→∀ b,b < M.length→0≤intAt (xlC (cRw X) (i * 1)) (b * 1)∧intAt (xlC (cRw X) (i * 1)) (b * 1)≤100) (hy1:∀ b,b < M.length→0≤intAt (cI Y) (b * 1)∧intAt (cI Y) (b * 1)≤100) (hm1:∀ b,b < M.length→0≤intAt (cI M) (b * 1)∧intAt (cI M) (b * 1)≤1000) (i:Nat) (hi1:i≤3) (hi2:True) (hqsr20_1:(ltI i 3)=true) (v:BaseW) (eb:Nat→Option Nat) (ec:Nat→Nat) (hs:List Nat):Goes Try.prog 45 srK26 ((qN7_2 M X Y i u ul z)) (BaseW.H (bw v 0 eb ec) hs) (Hd.AfterB Try.prog 45 1 srK22 (bw v 0 eb ec) (Hd.StepC Try.prog 45 0 (fun i:{i:Nat // i≤3∧True}=>⟨[(qN7_18 M z),(2,(.ptr 0 0)),(5,(.sl 1 0 3 3)),(6,(.v (.int .i64 i.1)))],[],2,[(qN7_11 X Y u ul),(1,(.cells (cI (tI (thA (nuP (cRw X) (cI Y) (cI M)) M.length i.1) 3)) 2))]⟩) (fun i:{i:Nat // i≤3∧True}=>3 - i.1) srK9 (bw v 0 eb ec) (OutM Try.prog Try.f31 45 ((.sl 0 0 3 3)) [(qN7_13 M X Y)] (bw v 0 eb ec)) (⟨i,hi1,hi2⟩:{i:Nat // i≤3∧True}))):=by
 have hcl_Y:=cI_len Y
 have hcl_M:=cI_len M
 have ghqsr20_1:=ltI_true hqsr20_1
 rw [show ((qN7_2 M X Y i u ul z):Ev.Lit)=⟨[(qN7_18 M z),(2,(.ptr 0 0)),(5,(.sl 1 0 3 3)),(qN7_17 i),(7,(.v (.int .i64 0)))],[],2,[(qN7_11 X Y u ul),(1,(.cells (cI (tI (thB (nuP (cRw X) (cI Y) (cI M)) M.length i 0) 3)) 2))]⟩ from by (rw [thB_start]; rfl)]
 exact Hd.goes_loopL (id:=2) (by kernel_rfl) (by kernel_rfl) (fun j:{j:Nat // j≤M.length∧True}=>⟨[(qN7_18 M z),(2,(.ptr 0 0)),(5,(.sl 1 0 3 3)),(qN7_17 i),(7,(.v (.int .i64 j.1)))],[],2,[(qN7_11 X Y u ul),(1,(.cells (cI (tI (thB (nuP (cRw X) (cI Y) (cI M)) M.length i j.1) 3)) 2))]⟩) (fun j:{j:Nat // j≤M.length∧True}=>M.length - j.1) (fun ix_ hs=>sr_31 u X ul Y z M hn8 hx3 hxr hy hx1 hy1 hm1 i hi1 hi2 hqsr20_1 ix_.1 ix_.2.1 ix_.2.2 v eb ec hs) ⟨0,Nat.zero_le _,trivial⟩ hs
theorem sr_28 (u:Value) (X:List (Value×List Int)) (ul:Value) (Y:List Int) (z:Value) (M:List Int) (hn8:M.length≤8) (hx3:X.length=3) (hxr:∀ i,i < 3→xlN (cRw X) (i * 1)=M.length) (hy:Y.length=M.length) (hx1:∀ i,i < 3→∀ b,b < M.length→0≤intAt (xlC (cRw X) (i * 1)) (b * 1)∧intAt (xlC (cRw X) (i * 1)) (b * 1)≤100) (hy1:∀ b,b < M.length→0≤intAt (cI Y) (b * 1)∧intAt (cI Y) (b * 1)≤100) (hm1:∀ b,b < M.length→0≤intAt (cI M) (b * 1)∧intAt (cI M) (b * 1)≤1000) (i:Nat) (hi1:i≤3) (hi2:True) (hqsr20_1:(ltI i 3)=true) (v:BaseW) (eb:Nat→Option Nat) (ec:Nat→Nat) (hs:List Nat):Goes Try.prog 45 srK26 ((qN7_2 M X Y i u ul z)) (BaseW.H (bw v 0 eb ec) hs) (Hd.AfterB Try.prog 45 1 srK22 (bw v 0 eb ec) (Hd.StepC Try.prog 45 0 (fun i:{i:Nat // i≤3∧True}=>⟨[(qN7_18 M z),(2,(.ptr 0 0)),(5,(.sl 1 0 3 3)),(6,(.v (.int .i64 i.1)))],[],2,[(qN7_11 X Y u ul),(1,(.cells (cI (tI (thA (nuP (cRw X) (cI Y) (cI M)) M.length i.1) 3)) 2))]⟩) (fun i:{i:Nat // i≤3∧True}=>3 - i.1) srK9 (bw v 0 eb ec) (OutM Try.prog Try.f31 45 ((.sl 0 0 3 3)) [(qN7_13 M X Y)] (bw v 0 eb ec)) (⟨i,hi1,hi2⟩:{i:Nat // i≤3∧True}))):=by
 exact sr_29 u X ul Y z M hn8 hx3 hxr hy hx1 hy1 hm1 i hi1 hi2 hqsr20_1 v eb ec hs
theorem sr_25 (u:Value) (X:List (Value×List Int)) (ul:Value) (Y:List Int) (z:Value) (M:List Int) (hn8:M.length≤8) (hx3:X.length=3) (hxr:∀ i,i < 3→xlN (cRw X) (i * 1)=M.length) (hy:Y.length=M.length) (hx1:∀ i,i < 3→∀ b,b < M.length→0≤intAt (xlC (cRw X) (i * 1)) (b * 1)∧intAt (xlC (cRw X) (i * 1)) (b * 1)≤100) (hy1:∀ b,b < M.length→0≤intAt (cI Y) (b * 1)∧intAt (cI Y) (b * 1)≤100) (hm1:∀ b,b < M.length→0≤intAt (cI M) (b * 1)∧intAt (cI M) (b * 1)≤1000) (i:Nat) (hi1:i≤3) (hi2:True) (hqsr20_1:(ltI i 3)=true) (v:BaseW) (eb:Nat→Option Nat) (ec:Nat→Nat) (hs:List Nat):Goes Try.prog 45 srK24 ((qN7_6 M X Y i u ul z)) (BaseW.H (bw v 0 eb ec) hs) (Hd.AfterB Try.prog 45 1 srK22 (bw v 0 eb ec) (Hd.StepC Try.prog 45 0 (fun i:{i:Nat // i≤3∧True}=>⟨[(qN7_18 M z),(2,(.ptr 0 0)),(5,(.sl 1 0 3 3)),(6,(.v (.int .i64 i.1)))],[],2,[(qN7_11 X Y u ul),(1,(.cells (cI (tI (thA (nuP (cRw X) (cI Y) (cI M)) M.length i.1) 3)) 2))]⟩) (fun i:{i:Nat // i≤3∧True}=>3 - i.1) srK9 (bw v 0 eb ec) (OutM Try.prog Try.f31 45 ((.sl 0 0 3 3)) [(qN7_13 M X Y)] (bw v 0 eb ec)) (⟨i,hi1,hi2⟩:{i:Nat // i≤3∧True}))):=by
 have hcl_Y:=cI_len Y
 have hcl_M:=cI_len M
 have ghqsr20_1:=ltI_true hqsr20_1
 refine Hd.goes_seqA (by kernel_rfl) ?_
 exact goes_leafA isN_e (goes_told Try.checked.mixed (known_none) 200 (T':=(qN7_2 M X Y i u ul z)) (e:=.normal) (ps:=[]) [.go] (by kernel_rfl) (by kernel_rfl) trivial rfl) (Hd.en_n (sr_28 u X ul Y z M hn8 hx3 hxr hy hx1 hy1 hm1 i hi1 hi2 hqsr20_1 v eb ec hs))
theorem sr_23 (u:Value) (X:List (Value×List Int)) (ul:Value) (Y:List Int) (z:Value) (M:List Int) (hn8:M.length≤8) (hx3:X.length=3) (hxr:∀ i,i < 3→xlN (cRw X) (i * 1)=M.length) (hy:Y.length=M.length) (hx1:∀ i,i < 3→∀ b,b < M.length→0≤intAt (xlC (cRw X) (i * 1)) (b * 1)∧intAt (xlC (cRw X) (i * 1)) (b * 1)≤100) (hy1:∀ b,b < M.length→0≤intAt (cI Y) (b * 1)∧intAt (cI Y) (b * 1)≤100) (hm1:∀ b,b < M.length→0≤intAt (cI M) (b * 1)∧intAt (cI M) (b * 1)≤1000) (i:Nat) (hi1:i≤3) (hi2:True) (hqsr20_1:(ltI i 3)=true) (v:BaseW) (eb:Nat→Option Nat) (ec:Nat→Nat) (hs:List Nat):Goes Try.prog 45 (hdC srK19) ((qN7_6 M X Y i u ul z)) (BaseW.H (bw v 0 eb ec) hs) (Hd.AfterN Try.prog 45 srK22 (bw v 0 eb ec) (Hd.StepC Try.prog 45 0 (fun i:{i:Nat // i≤3∧True}=>⟨[(qN7_18 M z),(2,(.ptr 0 0)),(5,(.sl 1 0 3 3)),(6,(.v (.int .i64 i.1)))],[],2,[(qN7_11 X Y u ul),(1,(.cells (cI (tI (thA (nuP (cRw X) (cI Y) (cI M)) M.length i.1) 3)) 2))]⟩) (fun i:{i:Nat // i≤3∧True}=>3 - i.1) srK9 (bw v 0 eb ec) (OutM Try.prog Try.f31 45 ((.sl 0 0 3 3)) [(qN7_13 M X Y)] (bw v 0 eb ec)) (⟨i,hi1,hi2⟩:{i:Nat // i≤3∧True}))):=by
 exact Hd.goes_blkA (id:=1) (by kernel_rfl) (by kernel_rfl) (sr_25 u X ul Y z M hn8 hx3 hxr hy hx1 hy1 hm1 i hi1 hi2 hqsr20_1 v eb ec hs)
theorem sr_21 (u:Value) (X:List (Value×List Int)) (ul:Value) (Y:List Int) (z:Value) (M:List Int) (hn8:M.length≤8) (hx3:X.length=3) (hxr:∀ i,i < 3→xlN (cRw X) (i * 1)=M.length) (hy:Y.length=M.length) (hx1:∀ i,i < 3→∀ b,b < M.length→0≤intAt (xlC (cRw X) (i * 1)) (b * 1)∧intAt (xlC (cRw X) (i * 1)) (b * 1)≤100) (hy1:∀ b,b < M.length→0≤intAt (cI Y) (b * 1)∧intAt (cI Y) (b * 1)≤100) (hm1:∀ b,b < M.length→0≤intAt (cI M) (b * 1)∧intAt (cI M) (b * 1)≤1000) (i:Nat) (hi1:i≤3) (hi2:True) (hqsr20_1:(ltI i 3)=true) (v:BaseW) (eb:Nat→Option Nat) (ec:Nat→Nat) (hs:List Nat):Goes Try.prog 45 srK19 ((qN7_6 M X Y i u ul z)) (BaseW.H (bw v 0 eb ec) hs) (Hd.StepC Try.prog 45 0 (fun i:{i:Nat // i≤3∧True}=>⟨[(qN7_18 M z),(2,(.ptr 0 0)),(5,(.sl 1 0 3 3)),(6,(.v (.int .i64 i.1)))],[],2,[(qN7_11 X Y u ul),(1,(.cells (cI (tI (thA (nuP (cRw X) (cI Y) (cI M)) M.length i.1) 3)) 2))]⟩) (fun i:{i:Nat // i≤3∧True}=>3 - i.1) srK9 (bw v 0 eb ec) (OutM Try.prog Try.f31 45 ((.sl 0 0 3 3)) [(qN7_13 M X Y)] (bw v 0 eb ec)) (⟨i,hi1,hi2⟩:{i:Nat // i≤3∧True})):=by
 exact Hd.goes_seqA (by kernel_rfl) (sr_23 u X ul Y z M hn8 hx3 hxr hy hx1 hy1 hm1 i hi1 hi2 hqsr20_1 v eb ec hs)
theorem sr_35 (u:Value) (X:List (Value×List Int)) (ul:Value) (Y:List Int) (z:Value) (M:List Int) (hn8:M.length≤8) (hx3:X.length=3) (hxr:∀ i,i < 3→xlN (cRw X) (i * 1)=M.length) (hy:Y.length=M.length) (hx1:∀ i,i < 3→∀ b,b < M.length→0≤intAt (xlC (cRw X) (i * 1)) (b * 1)∧intAt (xlC (cRw X) (i * 1)) (b * 1)≤100) (hy1:∀ b,b < M.length→0≤intAt (cI Y) (b * 1)∧intAt (cI Y) (b * 1)≤100) (hm1:∀ b,b < M.length→0≤intAt (cI M) (b * 1)∧intAt (cI M) (b * 1)≤1000) (h0b:True) (hqsr20_1:(ltI 3 3)=false) (v:BaseW) (eb:Nat→Option Nat) (ec:Nat→Nat) (hs:List Nat):Goes Try.prog 45 srK9 ((qN7_9 M X Y)) (BaseW.H (bw v 0 eb ec) hs) (OutM Try.prog Try.f31 45 ((.sl 0 0 3 3)) [(qN7_13 M X Y)] (bw v 0 eb ec)):=by
 have hcl_Y:=cI_len Y
 have hcl_M:=cI_len M
 have ghqsr20_1:=ltI_false hqsr20_1
 exact goes_leafA isR_e (goes_cutR Try.checked.mixed (known_none) 200 (T':=⟨[(4,(.sl 0 0 3 3))],[],1,[(0,(qN7_13 M X Y))]⟩) (e:=.ret) (m:=2) (ps:=[]) [.go,.go] [1] [(.sl 1 0 3 3)] [(qN7_13 M X Y)] (by kernel_rfl) (by kernel_rfl) trivial rfl rfl (by decide) rfl ⟨nr_sl rfl,trivial⟩ ⟨⟨by show 0 < 1; decide,nrb_cells (nrl_plain (cI_plain _))⟩,trivial⟩) (en_eqM (r:=(.sl 0 0 3 3)) (ys:=[(qN7_13 M X Y)]) (by rfl) (by rfl) (en_retM (by kernel_rfl) (by kernel_rfl) rfl (.inr rfl)))
theorem sr_18 (u:Value) (X:List (Value×List Int)) (ul:Value) (Y:List Int) (z:Value) (M:List Int) (hn8:M.length≤8) (hx3:X.length=3) (hxr:∀ i,i < 3→xlN (cRw X) (i * 1)=M.length) (hy:Y.length=M.length) (hx1:∀ i,i < 3→∀ b,b < M.length→0≤intAt (xlC (cRw X) (i * 1)) (b * 1)∧intAt (xlC (cRw X) (i * 1)) (b * 1)≤100) (hy1:∀ b,b < M.length→0≤intAt (cI Y) (b * 1)∧intAt (cI Y) (b * 1)≤100) (hm1:∀ b,b < M.length→0≤intAt (cI M) (b * 1)∧intAt (cI M) (b * 1)≤1000) (i:Nat) (hi1:i≤3) (hi2:True) (v:BaseW) (eb:Nat→Option Nat) (ec:Nat→Nat) (hs:List Nat):Goes Try.prog 45 srK16 (⟨[(qN7_18 M z),(2,(.ptr 0 0)),(5,(.sl 1 0 3 3)),(6,(.v (.int .i64 i)))],[],2,[(qN7_11 X Y u ul),(qN7_12 M X Y i)]⟩) (BaseW.H (bw v 0 eb ec) hs) (Hd.StepC Try.prog 45 0 (fun i:{i:Nat // i≤3∧True}=>⟨[(qN7_18 M z),(2,(.ptr 0 0)),(5,(.sl 1 0 3 3)),(6,(.v (.int .i64 i.1)))],[],2,[(qN7_11 X Y u ul),(1,(.cells (cI (tI (thA (nuP (cRw X) (cI Y) (cI M)) M.length i.1) 3)) 2))]⟩) (fun i:{i:Nat // i≤3∧True}=>3 - i.1) srK9 (bw v 0 eb ec) (OutM Try.prog Try.f31 45 ((.sl 0 0 3 3)) [(qN7_13 M X Y)] (bw v 0 eb ec)) (⟨i,hi1,hi2⟩:{i:Nat // i≤3∧True})):=by
 have hcl_Y:=cI_len Y
 have hcl_M:=cI_len M
 refine Hd.goes_seqA (by kernel_rfl) ?_
 rcases Bool.eq_false_or_eq_true (ltI i 3) with hqsr20_1 | hqsr20_1
 ·skip
  have ghqsr20_1:=ltI_true hqsr20_1
  exact goes_leafA isN_e (goes_told Try.checked.mixed (known_none) 200 (T':=(qN7_6 M X Y i u ul z)) (e:=.normal) (ps:=[ltI i 3=true]) [.go,.go,.b true] (by kernel_rfl) (by kernel_rfl) ⟨hqsr20_1,trivial⟩ rfl) (Hd.en_n (sr_21 u X ul Y z M hn8 hx3 hxr hy hx1 hy1 hm1 i hi1 hi2 hqsr20_1 v eb ec hs))
 ·skip
  have ghqsr20_1:=ltI_false hqsr20_1
  obtain rfl:3=i:=by omega
  exact goes_leafA isX_e (goes_told Try.checked.mixed (known_none) 200 (T':=(qN7_9 M X Y)) (e:=.exit 0) (ps:=[ltI 3 3=false]) [.go,.go,.b false] (by kernel_rfl) (by kernel_rfl) ⟨hqsr20_1,trivial⟩ rfl) (Hd.en_o (by intro h; cases h) (Hd.en_sx (sr_35 u X ul Y z M hn8 hx3 hxr hy hx1 hy1 hm1 hi2  hqsr20_1 v eb ec hs)))
theorem sr_15 (u:Value) (X:List (Value×List Int)) (ul:Value) (Y:List Int) (z:Value) (M:List Int) (hn8:M.length≤8) (hx3:X.length=3) (hxr:∀ i,i < 3→xlN (cRw X) (i * 1)=M.length) (hy:Y.length=M.length) (hx1:∀ i,i < 3→∀ b,b < M.length→0≤intAt (xlC (cRw X) (i * 1)) (b * 1)∧intAt (xlC (cRw X) (i * 1)) (b * 1)≤100) (hy1:∀ b,b < M.length→0≤intAt (cI Y) (b * 1)∧intAt (cI Y) (b * 1)≤100) (hm1:∀ b,b < M.length→0≤intAt (cI M) (b * 1)∧intAt (cI M) (b * 1)≤1000) (v:BaseW) (eb:Nat→Option Nat) (ec:Nat→Nat) (hs:List Nat):Goes Try.prog 45 srK12 ((qN7_3 M X Y u ul z)) (BaseW.H (bw v 0 eb ec) hs) (Hd.AfterN Try.prog 45 srK9 (bw v 0 eb ec) (OutM Try.prog Try.f31 45 ((.sl 0 0 3 3)) [(qN7_13 M X Y)] (bw v 0 eb ec))):=by
 have hcl_Y:=cI_len Y
 have hcl_M:=cI_len M
 rw [show ((qN7_3 M X Y u ul z):Ev.Lit)=⟨[(qN7_18 M z),(2,(.ptr 0 0)),(5,(.sl 1 0 3 3)),(6,(.v (.int .i64 0)))],[],2,[(qN7_11 X Y u ul),(1,(.cells (cI (tI (thA (nuP (cRw X) (cI Y) (cI M)) M.length 0) 3)) 2))]⟩ from by (rw [thA_zero]; rfl)]
 exact Hd.goes_loopA (id:=0) (by kernel_rfl) (by kernel_rfl) (fun i:{i:Nat // i≤3∧True}=>⟨[(qN7_18 M z),(2,(.ptr 0 0)),(5,(.sl 1 0 3 3)),(6,(.v (.int .i64 i.1)))],[],2,[(qN7_11 X Y u ul),(1,(.cells (cI (tI (thA (nuP (cRw X) (cI Y) (cI M)) M.length i.1) 3)) 2))]⟩) (fun i:{i:Nat // i≤3∧True}=>3 - i.1) (fun ix_ hs=>sr_18 u X ul Y z M hn8 hx3 hxr hy hx1 hy1 hm1 ix_.1 ix_.2.1 ix_.2.2 v eb ec hs) ⟨0,Nat.zero_le _,trivial⟩ hs
theorem sr_14 (u:Value) (X:List (Value×List Int)) (ul:Value) (Y:List Int) (z:Value) (M:List Int) (hn8:M.length≤8) (hx3:X.length=3) (hxr:∀ i,i < 3→xlN (cRw X) (i * 1)=M.length) (hy:Y.length=M.length) (hx1:∀ i,i < 3→∀ b,b < M.length→0≤intAt (xlC (cRw X) (i * 1)) (b * 1)∧intAt (xlC (cRw X) (i * 1)) (b * 1)≤100) (hy1:∀ b,b < M.length→0≤intAt (cI Y) (b * 1)∧intAt (cI Y) (b * 1)≤100) (hm1:∀ b,b < M.length→0≤intAt (cI M) (b * 1)∧intAt (cI M) (b * 1)≤1000) (v:BaseW) (eb:Nat→Option Nat) (ec:Nat→Nat) (hs:List Nat):Goes Try.prog 45 srK12 ((qN7_3 M X Y u ul z)) (BaseW.H (bw v 0 eb ec) hs) (Hd.AfterN Try.prog 45 srK9 (bw v 0 eb ec) (OutM Try.prog Try.f31 45 ((.sl 0 0 3 3)) [(qN7_13 M X Y)] (bw v 0 eb ec))):=by
 exact sr_15 u X ul Y z M hn8 hx3 hxr hy hx1 hy1 hm1 v eb ec hs
theorem sr_11 (u:Value) (X:List (Value×List Int)) (ul:Value) (Y:List Int) (z:Value) (M:List Int) (hn8:M.length≤8) (hx3:X.length=3) (hxr:∀ i,i < 3→xlN (cRw X) (i * 1)=M.length) (hy:Y.length=M.length) (hx1:∀ i,i < 3→∀ b,b < M.length→0≤intAt (xlC (cRw X) (i * 1)) (b * 1)∧intAt (xlC (cRw X) (i * 1)) (b * 1)≤100) (hy1:∀ b,b < M.length→0≤intAt (cI Y) (b * 1)∧intAt (cI Y) (b * 1)≤100) (hm1:∀ b,b < M.length→0≤intAt (cI M) (b * 1)∧intAt (cI M) (b * 1)≤1000) (v:BaseW) (eb:Nat→Option Nat) (ec:Nat→Nat) (hs:List Nat):Goes Try.prog 45 srK10 ((qN7_7 M X Y u ul z)) (BaseW.H (bw v 0 eb ec) hs) (Hd.AfterN Try.prog 45 srK9 (bw v 0 eb ec) (OutM Try.prog Try.f31 45 ((.sl 0 0 3 3)) [(qN7_13 M X Y)] (bw v 0 eb ec))):=by
 have hcl_Y:=cI_len Y
 have hcl_M:=cI_len M
 refine Hd.goes_seqA (by kernel_rfl) ?_
 exact goes_leafA isN_e (goes_told Try.checked.mixed (known_none) 200 (T':=(qN7_3 M X Y u ul z)) (e:=.normal) (ps:=[]) [.go] (by kernel_rfl) (by kernel_rfl) trivial rfl) (Hd.en_n (sr_14 u X ul Y z M hn8 hx3 hxr hy hx1 hy1 hm1 v eb ec hs))
theorem sr_8 (u:Value) (X:List (Value×List Int)) (ul:Value) (Y:List Int) (z:Value) (M:List Int) (hn8:M.length≤8) (hx3:X.length=3) (hxr:∀ i,i < 3→xlN (cRw X) (i * 1)=M.length) (hy:Y.length=M.length) (hx1:∀ i,i < 3→∀ b,b < M.length→0≤intAt (xlC (cRw X) (i * 1)) (b * 1)∧intAt (xlC (cRw X) (i * 1)) (b * 1)≤100) (hy1:∀ b,b < M.length→0≤intAt (cI Y) (b * 1)∧intAt (cI Y) (b * 1)≤100) (hm1:∀ b,b < M.length→0≤intAt (cI M) (b * 1)∧intAt (cI M) (b * 1)≤1000) (v:BaseW) (eb:Nat→Option Nat) (ec:Nat→Nat) (hs:List Nat):Goes Try.prog 45 srK6 ((qN7_7 M X Y u ul z)) (BaseW.H (bw v 0 eb ec) hs) (OutM Try.prog Try.f31 45 ((.sl 0 0 3 3)) [(qN7_13 M X Y)] (bw v 0 eb ec)):=by
 exact Hd.goes_seqA (by kernel_rfl) (sr_11 u X ul Y z M hn8 hx3 hxr hy hx1 hy1 hm1 v eb ec hs)
theorem sr_5 (u:Value) (X:List (Value×List Int)) (ul:Value) (Y:List Int) (z:Value) (M:List Int) (hn8:M.length≤8) (hx3:X.length=3) (hxr:∀ i,i < 3→xlN (cRw X) (i * 1)=M.length) (hy:Y.length=M.length) (hx1:∀ i,i < 3→∀ b,b < M.length→0≤intAt (xlC (cRw X) (i * 1)) (b * 1)∧intAt (xlC (cRw X) (i * 1)) (b * 1)≤100) (hy1:∀ b,b < M.length→0≤intAt (cI Y) (b * 1)∧intAt (cI Y) (b * 1)≤100) (hm1:∀ b,b < M.length→0≤intAt (cI M) (b * 1)∧intAt (cI M) (b * 1)≤1000) (v:BaseW) (eb:Nat→Option Nat) (ec:Nat→Nat) (hs:List Nat):Goes Try.prog 45 srK3 ((qN7_8 M X Y u ul z)) (BaseW.H (bw v 0 eb ec) hs) (OutM Try.prog Try.f31 45 ((.sl 0 0 3 3)) [(qN7_13 M X Y)] (bw v 0 eb ec)):=by
 have hcl_Y:=cI_len Y
 have hcl_M:=cI_len M
 refine Hd.goes_seqA (by kernel_rfl) ?_
 exact goes_leafA isN_e (goes_told Try.checked.mixed (known_none) 200 (T':=(qN7_7 M X Y u ul z)) (e:=.normal) (ps:=[]) [.go,.go] (by kernel_rfl) (by kernel_rfl) trivial rfl) (Hd.en_n (sr_8 u X ul Y z M hn8 hx3 hxr hy hx1 hy1 hm1 v eb ec hs))
theorem sr_2 (u:Value) (X:List (Value×List Int)) (ul:Value) (Y:List Int) (z:Value) (M:List Int) (hn8:M.length≤8) (hx3:X.length=3) (hxr:∀ i,i < 3→xlN (cRw X) (i * 1)=M.length) (hy:Y.length=M.length) (hx1:∀ i,i < 3→∀ b,b < M.length→0≤intAt (xlC (cRw X) (i * 1)) (b * 1)∧intAt (xlC (cRw X) (i * 1)) (b * 1)≤100) (hy1:∀ b,b < M.length→0≤intAt (cI Y) (b * 1)∧intAt (cI Y) (b * 1)≤100) (hm1:∀ b,b < M.length→0≤intAt (cI M) (b * 1)∧intAt (cI M) (b * 1)≤1000) (v:BaseW) (eb:Nat→Option Nat) (ec:Nat→Nat) (hs:List Nat):Goes Try.prog 45 srK1 (⟨[(0,(.agg [.xl u X.length 1 (cRw X),.xl ul Y.length 1 (cI Y)])),(1,(.xl z M.length 1 (cI M)))],[],0,[]⟩) (BaseW.H (bw v 0 eb ec) hs) (OutM Try.prog Try.f31 45 ((.sl 0 0 3 3)) [(qN7_13 M X Y)] (bw v 0 eb ec)):=by
 have hcl_Y:=cI_len Y
 have hcl_M:=cI_len M
 refine Hd.goes_seqA (by kernel_rfl) ?_
 exact goes_leafA isN_e (goes_told Try.checked.mixed (known_none) 200 (T':=(qN7_8 M X Y u ul z)) (e:=.normal) (ps:=[]) [.go,.go] (by kernel_rfl) (by kernel_rfl) trivial rfl) (Hd.en_n (sr_5 u X ul Y z M hn8 hx3 hxr hy hx1 hy1 hm1 v eb ec hs))
theorem sr_g (u:Value) (X:List (Value×List Int)) (ul:Value) (Y:List Int) (z:Value) (M:List Int) (hn8:M.length≤8) (hx3:X.length=3) (hxr:∀ i,i < 3→xlN (cRw X) (i * 1)=M.length) (hy:Y.length=M.length) (hx1:∀ i,i < 3→∀ b,b < M.length→0≤intAt (xlC (cRw X) (i * 1)) (b * 1)∧intAt (xlC (cRw X) (i * 1)) (b * 1)≤100) (hy1:∀ b,b < M.length→0≤intAt (cI Y) (b * 1)∧intAt (cI Y) (b * 1)≤100) (hm1:∀ b,b < M.length→0≤intAt (cI M) (b * 1)∧intAt (cI M) (b * 1)≤1000):GivesM Try.prog 31 [(.agg [.xl u X.length 1 (cRw X),.xl ul Y.length 1 (cI Y)]),(.xl z M.length 1 (cI M))] [] ((.sl 0 0 3 3)) [(qN7_13 M X Y)] :=
 givesM_parts 45 (by kernel_rfl) Try.func31 (by kernel_rfl) (by kernel_rfl) (by kernel_rfl) (fun v eb ec=>goes_less (by kernel_rfl) (by kernel_rfl) (by kernel_rfl) (by kernel_rfl) (sr_2 u X ul Y z M hn8 hx3 hxr hy hx1 hy1 hm1 v eb ec []))
end
end Go.Proofs.Ytegmogadbnfbgaa
