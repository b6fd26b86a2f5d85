import Derived.Test.YtegmogadbnfbgaaF5
set_option maxHeartbeats 2000000
set_option linter.all false
/- What is known of functions of palettes. -/
namespace Go.Proofs.Ytegmogadbnfbgaa
open Go Ev
noncomputable section
def IsSpT (t:TypeId):Prop:=t=102
def IsLoT (t:TypeId):Prop:=t=2
def IsPal (k:Nat) (c:List AV) (n:Nat):Prop:=k=1∧∃ R,c=cRw R∧n=R.length
theorem extL_rows:∀ R:List (Value×List Int),ExtL (cRw R)
 | []=>extL_nil
 | r :: l=>extL_cons (ext_xl (extL_plain (cI_plain _))) (extL_rows l)
theorem ext_pal {y:Value} (R:List (Value×List Int)) (v:Value):Ext (.agg [.xl y R.length 1 (cRw R),.v v]):=ext_agg (extL_cons (ext_xl (extL_rows R)) (extL_cons (ext_v _) extL_nil))
def qpS:List AV→Option (Res1×List Prop):=fun vs =>
 match vs with
 | [.agg [.xl y n k c,.v u]]=>match numV u with
  | some e=>some (.val (.v (.int .i64 (ppE c n e))),[IsPal k c n])
  | none=>none
 | _=>none
def qpO:OrcH:=extOrc 37 qpS
theorem known_qp:Known Try.prog (clsO qpO):=known_ext (fun vs r ps h hp=>by
 unfold qpS at h
 split at h
 ·split at h
  ·rename_i e e1
   cases h
   obtain ⟨⟨rfl,R,rfl,rfl⟩,-⟩:=hp
   rw [numV_eq e1]
   exact ⟨extL_cons (ext_pal _ _) extL_nil,_,rfl,pp_g _ R e⟩
  ·cases h
 ·cases h)
def qrO:OrcH:=extOrc 38 qpS
theorem known_qr:Known Try.prog (clsO qrO):=known_ext (fun vs r ps h hp=>by
 unfold qpS at h
 split at h
 ·split at h
  ·rename_i e e1
   cases h
   obtain ⟨⟨rfl,R,rfl,rfl⟩,-⟩:=hp
   rw [numV_eq e1]
   exact ⟨extL_cons (ext_pal _ _) extL_nil,_,rfl,rpp_g _ R e⟩
  ·cases h
 ·cases h)
def qmS:List AV→Option (Res1×List Prop):=fun vs =>
 match vs with
 | [.agg [.xl y n k c,.v u],.v v]=>match numV u,numV v with
  | some e,some s=>some (.val (.agg [.v (.int .i64 (mxI c s n 0)),.v (.int .i64 (mxI c s n 1)),.v (.int .i64 (mxI c s n 2)),.v (.int .i64 (mxI c s n 3)),.v (.int .i64 (mxI c s n 4)),.v (.int .i64 (mxI c s n 5)),.v (.int .i64 (mxI c s n 6)),.v (.int .i64 (mxI c s n 7))]),[IsPal k c n,ppE c n e=0,0≤s∧s≤1000000])
  | _,_=>none
 | _=>none
def qmO:OrcH:=extOrc 68 qmS
theorem known_qm:Known Try.prog (clsO qmO):=known_ext (fun vs r ps h hp=>by
 unfold qmS at h
 split at h
 ·split at h
  ·rename_i e s e1 e2
   cases h
   obtain ⟨⟨rfl,R,rfl,rfl⟩,h1,h2,-⟩:=hp
   rw [numV_eq e1,numV_eq e2]
   exact ⟨extL_cons (ext_pal _ _) (extL_cons (ext_v _) extL_nil),_,rfl,mx_g _ R e s h1 h2⟩
  ·cases h
 ·cases h)
def quS:List AV→Option (Res1×List Prop):=fun vs =>
 match vs with
 | [.agg [.xl y n k c,.v u],.v v]=>match numV u,numV v with
  | some e,some s=>some (.blk (fun b=>.sl b 0 (xlN c (0 * 1)) (xlN c (0 * 1))) (.cells (cI (tI (mxI c s n) (xlN c (0 * 1)))) 2),[IsPal k c n,ppE c n e=0,0≤s∧s≤1000000])
  | _,_=>none
 | _=>none
def quO:OrcH:=extOrc 46 quS
theorem known_qu:Known Try.prog (clsO quO):=known_ext (fun vs r ps h hp=>by
 unfold quS at h
 split at h
 ·split at h
  ·rename_i e s e1 e2
   cases h
   obtain ⟨⟨rfl,R,rfl,rfl⟩,h1,h2,-⟩:=hp
   rw [numV_eq e1,numV_eq e2]
   refine ⟨extL_cons (ext_pal _ _) (extL_cons (ext_v _) extL_nil),?_⟩
   exact givesB_of (su_g _ R e s h1 h2) (one_sl _ (cI_plain _))
  ·cases h
 ·cases h)
def IsTab (d:List AV) (m:Nat):Prop:=∃ f:Nat→Int,d=cI (tI f m)∧∀ b,-1000000≤f b∧f b≤1000000
theorem nr_tab {f:Nat→Int} {m n:Nat} {e:Int} {c:List AV} (h:n≤m):nrB (fun b=>intAt (cI (tI f m)) b) e c n=nrB f e c n:=by
 unfold nrB
 rw [decide_eq_decide]
 constructor
 ·intro k b hb
  have:=k b hb
  simp only [tI_int (show b < m by omega)] at this
  exact this
 ·intro k b hb
  simp only [tI_int (show b < m by omega)]
  exact k b hb
def isZ:Nat→Bool
 | 0=>true
 | _=>false
theorem isZ_ok {n:Nat} (h:isZ n=true):n=0:=by
 cases n with
 | zero=>rfl
 | succ n=>cases h
def qnS:List AV→List AB→Option ((AV×List AB)×List Prop):=fun args xs =>
 match args,xs with
 | [.xl y n k c,.sl b o m m',.v u],[.cells d t]=>match numV u,isZ b,isZ o with
  | some e,true,true=>some ((.v (.bool (nrB (fun b=>intAt d b) e c n)),[.cells d t]),[IsI k n c,IsTab d m,IsLoT t,m'=m,n≤m,m≤1000,0≤e∧e≤1000])
  | _,_,_=>none
 | _,_=>none
def qnO:OrcH:=mOrc 48 qnS
theorem known_qn:Known Try.prog (clsO qnO):=known_m (fun args xs r ys ps h hp=>by
 unfold qnS at h
 split at h
 ·split at h
  ·rename_i e e1 e2 e3
   cases h
   obtain ⟨⟨rfl,M,rfl,rfl⟩,⟨f,rfl,hf⟩,rfl,rfl,h1,h2,he,-⟩:=hp
   rw [numV_eq e1,isZ_ok e2,isZ_ok e3,nr_tab h1]
   refine ⟨fun x hx=>?_,fun x hx=>?_,nq_g _ M f _ e h1 h2 hf he⟩ <;> (rw [List.mem_singleton.1 hx]; exact freeB_cells (freeL_plain (cI_plain _)))
  ·cases h
 ·cases h)
def fI8 (a0 a1 a2 a3 a4 a5 a6 a7:Int):Nat→Int:=fun i=>match i with | 0=>a0 | 1=>a1 | 2=>a2 | 3=>a3 | 4=>a4 | 5=>a5 | 6=>a6 | 7=>a7 | _=>0
theorem sp_tab {f:Nat→Int} {m:Nat} (h:m≤8):tI (fI8 (f 0) (f 1) (f 2) (f 3) (f 4) (f 5) (f 6) (f 7)) m=tI f m:=tI_ext (fun j hj=>by
 match j,show j < 8 by omega with
 | 0,_=>rfl
 | 1,_=>rfl
 | 2,_=>rfl
 | 3,_=>rfl
 | 4,_=>rfl
 | 5,_=>rfl
 | 6,_=>rfl
 | 7,_=>rfl)
def qoS:List AV→List AB→Option ((AV×List AB)×List Prop):=fun args xs =>
 match args,xs with
 | [.sl b o n n'],[.cells l t]=>match l with
  | [.v x0,.v x1,.v x2,.v x3,.v x4,.v x5,.v x6,.v x7]=>match isZ b,isZ o,numV x0,numV x1,numV x2,numV x3,numV x4,numV x5,numV x6,numV x7 with
   | true,true,some a0,some a1,some a2,some a3,some a4,some a5,some a6,some a7=>some ((.sl 1 0 n n,[.cells [.v (.int .i64 a0),.v (.int .i64 a1),.v (.int .i64 a2),.v (.int .i64 a3),.v (.int .i64 a4),.v (.int .i64 a5),.v (.int .i64 a6),.v (.int .i64 a7)] t,.cells (cI (tI (fI8 a0 a1 a2 a3 a4 a5 a6 a7) n)) 2]),[IsSpT t,n'=n,1≤n,n≤8])
   | _,_,_,_,_,_,_,_,_,_=>none
  | _=>none
 | _,_=>none
def qoO:OrcH:=mOrc 55 qoS
theorem known_qo:Known Try.prog (clsO qoO):=known_m (fun args xs r ys ps h hp=>by
 unfold qoS at h
 split at h
 ·rename_i b o n n' l t
  split at h
  ·split at h
   ·rename_i a0 a1 a2 a3 a4 a5 a6 a7 e2 e3 q0 q1 q2 q3 q4 q5 q6 q7
    cases h
    obtain ⟨rfl,rfl,h1,h2,-⟩:=hp
    rw [isZ_ok e2,isZ_ok e3,numV_eq q0,numV_eq q1,numV_eq q2,numV_eq q3,numV_eq q4,numV_eq q5,numV_eq q6,numV_eq q7]
    refine ⟨fun x hx=>?_,fun x hx=>?_,?_⟩
    ·rw [List.mem_singleton.1 hx]; exact freeB_cells (freeL_plain (cI_plain [a0,a1,a2,a3,a4,a5,a6,a7]))
    ·rcases List.mem_cons.1 hx with rfl | hx
     ·exact freeB_cells (freeL_plain (cI_plain [a0,a1,a2,a3,a4,a5,a6,a7]))
     ·rw [List.mem_singleton.1 hx]; exact freeB_cells (freeL_plain (cI_plain _))
    ·rw [tI_eq]
     match n',h1,h2 with
     | 1,_,_=>exact ow_1 a0 a1 a2 a3 a4 a5 a6 a7
     | 2,_,_=>exact ow_2 a0 a1 a2 a3 a4 a5 a6 a7
     | 3,_,_=>exact ow_3 a0 a1 a2 a3 a4 a5 a6 a7
     | 4,_,_=>exact ow_4 a0 a1 a2 a3 a4 a5 a6 a7
     | 5,_,_=>exact ow_5 a0 a1 a2 a3 a4 a5 a6 a7
     | 6,_,_=>exact ow_6 a0 a1 a2 a3 a4 a5 a6 a7
     | 7,_,_=>exact ow_7 a0 a1 a2 a3 a4 a5 a6 a7
     | 8,_,_=>exact ow_8 a0 a1 a2 a3 a4 a5 a6 a7
   ·cases h
  ·cases h
 ·cases h)
theorem sets_eq {n:Nat} (h:n≤12):IntKind.i64.wrap (1 * 2 ^ (min (((n:Nat):Int)).toNat IntKind.i64.bits))=((2 ^ n:Nat):Int):=by
 match n,h with
 | 0,_=>rfl
 | 1,_=>rfl
 | 2,_=>rfl
 | 3,_=>rfl
 | 4,_=>rfl
 | 5,_=>rfl
 | 6,_=>rfl
 | 7,_=>rfl
 | 8,_=>rfl
 | 9,_=>rfl
 | 10,_=>rfl
 | 11,_=>rfl
 | 12,_=>rfl
theorem pow_12 {n:Nat} (h:n≤12):2 ^ n≤4096:=Nat.le_trans (Nat.pow_le_pow_right (by decide) h) (by decide)
noncomputable def miOeK1:Code:=bodyC Try.f33
theorem miOe_2 (y:Value) (R:List (Value×List Int)) (e s:Int) (hE:¬ ppE (cRw R) R.length e=0) (v:BaseW) (eb:Nat→Option Nat) (ec:Nat→Nat) (hs:List Nat):Goes Try.prog 29 miOeK1 (⟨[(0,(.agg [.xl y R.length 1 (cRw R),.v (.int .i64 e)])),(1,(.v (.int .i64 s)))],[],0,[]⟩) (BaseW.H (bw v 0 eb ec) hs) (OutM Try.prog Try.f33 29 ((.tup [.v (.slice none 0 0),.v (.int .i64 (ppE (cRw R) R.length e))])) [] (bw v 0 eb ec)):=by
 rcases Bool.eq_false_or_eq_true (eqI (ppE (cRw R) R.length e) 0) with hqmiOe3_1 | hqmiOe3_1
 ·skip
  have ghqmiOe3_1:=eqI_true hqmiOe3_1
  rcases Bool.eq_false_or_eq_true (ltI s 0) with hqmiOe3_2 | hqmiOe3_2
  ·skip
   have ghqmiOe3_2:=ltI_true hqmiOe3_2
   exact absurd (eqI_true hqmiOe3_1) hE
  ·skip
   have ghqmiOe3_2:=ltI_false hqmiOe3_2
   rcases Bool.eq_false_or_eq_true (ltI (IntKind.i64.wrap (1 * 2 ^ min (((R.length:Nat):Int)).toNat IntKind.i64.bits) - 1) s) with hqmiOe3_3 | hqmiOe3_3
   ·skip
    have ghqmiOe3_3:=ltI_true hqmiOe3_3
    exact absurd (eqI_true hqmiOe3_1) hE
   ·skip
    have ghqmiOe3_3:=ltI_false hqmiOe3_3
    exact absurd (eqI_true hqmiOe3_1) hE
 ·skip
  have ghqmiOe3_1:=eqI_false hqmiOe3_1
  exact goes_leafA isR_e (goes_cut Try.checked.mixed (known_or known_qp (known_or known_qm known_qo)) 200 (T':=⟨[(4,(.v (Value.slice none 0 0))),(5,(.v (.int .i64 (ppE (cRw R) R.length e))))],[],0,[]⟩) (e:=.ret) (m:=1) (ps:=[IsPal 1 (cRw R) R.length,(!eqI (ppE (cRw R) R.length e) 0)=true]) [.go,.go,.go,.go,.go,.go,.go,.b true,.go,.go,.go] (by kernel_rfl) (by kernel_rfl) ⟨⟨rfl,R,rfl,rfl⟩,(by rw [hqmiOe3_1]; rfl),trivial⟩ rfl (by show 0≤1; decide) ⟨⟨nb_v _,nb_v _,trivial⟩,trivial,rfl⟩ (by show 0≤0; decide)) (en_eqM (r:=(.tup [(.v (Value.slice none 0 0)),(.v (.int .i64 (ppE (cRw R) R.length e)))])) (ys:=[]) (by rfl) (by rfl) (en_retM (by kernel_rfl) (by kernel_rfl) rfl (.inr rfl)))
theorem miOe_g (y:Value) (R:List (Value×List Int)) (e s:Int) (hE:¬ ppE (cRw R) R.length e=0):GivesM Try.prog 33 [(.agg [.xl y R.length 1 (cRw R),.v (.int .i64 e)]),(.v (.int .i64 s))] [] ((.tup [.v (.slice none 0 0),.v (.int .i64 (ppE (cRw R) R.length e))])) [] :=
 givesM_parts 29 (by kernel_rfl) Try.func33 (by kernel_rfl) (by kernel_rfl) (by kernel_rfl) (fun v eb ec=>goes_less (by kernel_rfl) (by kernel_rfl) (by kernel_rfl) (by kernel_rfl) (miOe_2 y R e s hE v eb ec []))
noncomputable def miOrK1:Code:=bodyC Try.f33
theorem miOr_2 (y:Value) (R:List (Value×List Int)) (e s:Int) (hE:ppE (cRw R) R.length e=0) (hr:¬ (0≤s∧s < ((2 ^ R.length:Nat):Int))) (v:BaseW) (eb:Nat→Option Nat) (ec:Nat→Nat) (hs:List Nat):Goes Try.prog 29 miOrK1 (⟨[(0,(.agg [.xl y R.length 1 (cRw R),.v (.int .i64 e)])),(1,(.v (.int .i64 s)))],[],0,[]⟩) (BaseW.H (bw v 0 eb ec) hs) (OutM Try.prog Try.f33 29 ((.tup [.v (.slice none 0 0),.v (.int .i64 3)])) [] (bw v 0 eb ec)):=by
 obtain ⟨⟨⟨hn1,hn2⟩,hm1,hm2⟩,-,-,he⟩:=ppE_zero hE
 have hpp:=Nat.one_le_two_pow (n:=R.length)
 have hsw:=sets_eq (n:=R.length) (by omega)
 have hpw:=pow_12 (n:=R.length) (by omega)
 rcases Bool.eq_false_or_eq_true (eqI (ppE (cRw R) R.length e) 0) with hqmiOr3_1 | hqmiOr3_1
 ·skip
  have ghqmiOr3_1:=eqI_true hqmiOr3_1
  rcases Bool.eq_false_or_eq_true (ltI s 0) with hqmiOr3_2 | hqmiOr3_2
  ·skip
   have ghqmiOr3_2:=ltI_true hqmiOr3_2
   exact goes_leafA isR_e (goes_cut Try.checked.mixed (known_or known_qp (known_or known_qm known_qo)) 200 (T':=⟨[(4,(.v (Value.slice none 0 0))),(5,(.v (.int .i64 (.ofNat 3))))],[],0,[]⟩) (e:=.ret) (m:=2) (ps:=[IsPal 1 (cRw R) R.length,(!eqI (ppE (cRw R) R.length e) 0)=false,inR IntKind.i64 (IntKind.i64.wrap (1 * 2 ^ min (((R.length:Nat):Int)).toNat IntKind.i64.bits) - 1),(!ltI s 0)=false,false=false,false=false,(!false)=true]) [.go,.go,.go,.go,.go,.go,.go,.b false,.go,.go,.go,.go,.go,.go,.go,.go,.go,.go,.go,.go,.go,.go,.go,.b false,.b false,.b false,.go,.go,.go,.b true,.go,.go] (by kernel_rfl) (by kernel_rfl) ⟨⟨rfl,R,rfl,rfl⟩,(by rw [hqmiOr3_1]; rfl),(by show -9223372036854775808≤_∧_≤9223372036854775807; constructor <;> omega),(by rw [hqmiOr3_2]; rfl),rfl,rfl,rfl,trivial⟩ rfl (by show 0≤2; decide) ⟨⟨nb_v _,nb_v _,trivial⟩,trivial,rfl⟩ (by show 0≤0; decide)) (en_eqM (r:=(.tup [(.v (Value.slice none 0 0)),(.v (.int .i64 (.ofNat 3)))])) (ys:=[]) (by rfl) (by rfl) (en_retM (by kernel_rfl) (by kernel_rfl) rfl (.inr rfl)))
  ·skip
   have ghqmiOr3_2:=ltI_false hqmiOr3_2
   rcases Bool.eq_false_or_eq_true (ltI (IntKind.i64.wrap (1 * 2 ^ min (((R.length:Nat):Int)).toNat IntKind.i64.bits) - 1) s) with hqmiOr3_3 | hqmiOr3_3
   ·skip
    have ghqmiOr3_3:=ltI_true hqmiOr3_3
    exact goes_leafA isR_e (goes_cut Try.checked.mixed (known_or known_qp (known_or known_qm known_qo)) 200 (T':=⟨[(4,(.v (Value.slice none 0 0))),(5,(.v (.int .i64 (.ofNat 3))))],[],0,[]⟩) (e:=.ret) (m:=2) (ps:=[IsPal 1 (cRw R) R.length,(!eqI (ppE (cRw R) R.length e) 0)=false,inR IntKind.i64 (IntKind.i64.wrap (1 * 2 ^ min (((R.length:Nat):Int)).toNat IntKind.i64.bits) - 1),(!ltI s 0)=true,true=true,true=true,(!!ltI (IntKind.i64.wrap (1 * 2 ^ min (((R.length:Nat):Int)).toNat IntKind.i64.bits) - 1) s)=true]) [.go,.go,.go,.go,.go,.go,.go,.b false,.go,.go,.go,.go,.go,.go,.go,.go,.go,.go,.go,.go,.go,.go,.go,.b true,.go,.b true,.go,.b true,.go,.go,.go,.go,.b true,.go,.go] (by kernel_rfl) (by kernel_rfl) ⟨⟨rfl,R,rfl,rfl⟩,(by rw [hqmiOr3_1]; rfl),(by show -9223372036854775808≤_∧_≤9223372036854775807; constructor <;> omega),(by rw [hqmiOr3_2]; rfl),rfl,rfl,(by rw [hqmiOr3_3]; rfl),trivial⟩ rfl (by show 0≤2; decide) ⟨⟨nb_v _,nb_v _,trivial⟩,trivial,rfl⟩ (by show 0≤0; decide)) (en_eqM (r:=(.tup [(.v (Value.slice none 0 0)),(.v (.int .i64 (.ofNat 3)))])) (ys:=[]) (by rfl) (by rfl) (en_retM (by kernel_rfl) (by kernel_rfl) rfl (.inr rfl)))
   ·skip
    have ghqmiOr3_3:=ltI_false hqmiOr3_3
    exfalso
    omega
 ·skip
  have ghqmiOr3_1:=eqI_false hqmiOr3_1
  exact absurd hE (eqI_false hqmiOr3_1)
theorem miOr_g (y:Value) (R:List (Value×List Int)) (e s:Int) (hE:ppE (cRw R) R.length e=0) (hr:¬ (0≤s∧s < ((2 ^ R.length:Nat):Int))):GivesM Try.prog 33 [(.agg [.xl y R.length 1 (cRw R),.v (.int .i64 e)]),(.v (.int .i64 s))] [] ((.tup [.v (.slice none 0 0),.v (.int .i64 3)])) [] :=
 givesM_parts 29 (by kernel_rfl) Try.func33 (by kernel_rfl) (by kernel_rfl) (by kernel_rfl) (fun v eb ec=>goes_less (by kernel_rfl) (by kernel_rfl) (by kernel_rfl) (by kernel_rfl) (miOr_2 y R e s hE hr v eb ec []))
noncomputable def miOoK1:Code:=bodyC Try.f33
theorem miOo_2 (y:Value) (R:List (Value×List Int)) (e s:Int) (hE:ppE (cRw R) R.length e=0) (hr:0≤s∧s < ((2 ^ R.length:Nat):Int)) (v:BaseW) (eb:Nat→Option Nat) (ec:Nat→Nat) (hs:List Nat):Goes Try.prog 29 miOoK1 (⟨[(0,(.agg [.xl y R.length 1 (cRw R),.v (.int .i64 e)])),(1,(.v (.int .i64 s)))],[],0,[]⟩) (BaseW.H (bw v 0 eb ec) hs) (OutM Try.prog Try.f33 29 ((.tup [.sl 0 0 (xlN (cRw R) (0 * 1)) (xlN (cRw R) (0 * 1)),.v (.int .i64 0)])) [(.cells (cI (tI (mxI (cRw R) s R.length) (xlN (cRw R) (0 * 1)))) 2)] (bw v 0 eb ec)):=by
 obtain ⟨⟨⟨hn1,hn2⟩,hm1,hm2⟩,-,-,he⟩:=ppE_zero hE
 have hpp:=Nat.one_le_two_pow (n:=R.length)
 have hsw:=sets_eq (n:=R.length) (by omega)
 have hpw:=pow_12 (n:=R.length) (by omega)
 rcases Bool.eq_false_or_eq_true (eqI (ppE (cRw R) R.length e) 0) with hqmiOo3_1 | hqmiOo3_1
 ·skip
  have ghqmiOo3_1:=eqI_true hqmiOo3_1
  rcases Bool.eq_false_or_eq_true (ltI s 0) with hqmiOo3_2 | hqmiOo3_2
  ·skip
   have ghqmiOo3_2:=ltI_true hqmiOo3_2
   exfalso
   omega
  ·skip
   have ghqmiOo3_2:=ltI_false hqmiOo3_2
   rcases Bool.eq_false_or_eq_true (ltI (IntKind.i64.wrap (1 * 2 ^ min (((R.length:Nat):Int)).toNat IntKind.i64.bits) - 1) s) with hqmiOo3_3 | hqmiOo3_3
   ·skip
    have ghqmiOo3_3:=ltI_true hqmiOo3_3
    exfalso
    omega
   ·skip
    have ghqmiOo3_3:=ltI_false hqmiOo3_3
    exact goes_leafA isR_e (goes_cutR Try.checked.mixed (known_or known_qp (known_or known_qm known_qo)) 200 (T':=⟨[(4,(.sl 0 0 (xlN (cRw R) (0 * 1)) (xlN (cRw R) (0 * 1)))),(5,(.v (.int .i64 (.ofNat 0))))],[],1,[(0,(.cells (cI (tI (fI8 (mxI (cRw R) s R.length 0) (mxI (cRw R) s R.length 1) (mxI (cRw R) s R.length 2) (mxI (cRw R) s R.length 3) (mxI (cRw R) s R.length 4) (mxI (cRw R) s R.length 5) (mxI (cRw R) s R.length 6) (mxI (cRw R) s R.length 7)) (xlN (cRw R) (0 * 1)))) 2))]⟩) (e:=.ret) (m:=5) (ps:=[IsPal 1 (cRw R) R.length,(!eqI (ppE (cRw R) R.length e) 0)=false,inR IntKind.i64 (IntKind.i64.wrap (1 * 2 ^ min (((R.length:Nat):Int)).toNat IntKind.i64.bits) - 1),(!ltI s 0)=true,true=true,true=true,(!!ltI (IntKind.i64.wrap (1 * 2 ^ min (((R.length:Nat):Int)).toNat IntKind.i64.bits) - 1) s)=false,IsPal 1 (cRw R) R.length,ppE (cRw R) R.length e=0,0≤s∧s≤1000000,0 < R.length,loadL Try.prog (cRw R) (0 * 1) 27=some (AV.xl (xlY (cRw R) (0 * 1)) (xlN (cRw R) (0 * 1)) 1 (xlC (cRw R) (0 * 1))),xlN (cRw R) (0 * 1)≤xlN (cRw R) (0 * 1),xlN (cRw R) (0 * 1)≤8,IsSpT 102,xlN (cRw R) (0 * 1)=xlN (cRw R) (0 * 1),1≤xlN (cRw R) (0 * 1),xlN (cRw R) (0 * 1)≤8]) [.go,.go,.go,.go,.go,.go,.go,.b false,.go,.go,.go,.go,.go,.go,.go,.go,.go,.go,.go,.go,.go,.go,.go,.b true,.go,.b true,.go,.b true,.go,.go,.go,.go,.b false,.go,.go,.go,.go,.go,.go,.go,.sym,.sym,.go,.go,.go,.go,.go,.go,.go,.sym,.go,.go] [4] [(.sl 4 0 (xlN (cRw R) (0 * 1)) (xlN (cRw R) (0 * 1))),(.v (.int .i64 (.ofNat 0)))] [(.cells (cI (tI (fI8 (mxI (cRw R) s R.length 0) (mxI (cRw R) s R.length 1) (mxI (cRw R) s R.length 2) (mxI (cRw R) s R.length 3) (mxI (cRw R) s R.length 4) (mxI (cRw R) s R.length 5) (mxI (cRw R) s R.length 6) (mxI (cRw R) s R.length 7)) (xlN (cRw R) (0 * 1)))) 2)] (by kernel_rfl) (by kernel_rfl) ⟨⟨rfl,R,rfl,rfl⟩,(by rw [hqmiOo3_1]; rfl),(by show -9223372036854775808≤_∧_≤9223372036854775807; constructor <;> omega),(by rw [hqmiOo3_2]; rfl),rfl,rfl,(by rw [hqmiOo3_3]; rfl),⟨rfl,R,rfl,rfl⟩,hE,(by constructor <;> omega),(by omega),(by rw [Nat.mul_one]; exact cRw_load (by omega) 27 (Try.underlying27) rfl),(Nat.le_refl _),(by omega),rfl,rfl,(by omega),(by omega),trivial⟩ rfl rfl (by decide) rfl ⟨nr_sl rfl,nr_v _,trivial⟩ ⟨⟨by show 0 < 1; decide,nrb_cells (nrl_plain (cI_plain _))⟩,trivial⟩) (en_eqM (r:=(.tup [(.sl 0 0 (xlN (cRw R) (0 * 1)) (xlN (cRw R) (0 * 1))),(.v (.int .i64 (.ofNat 0)))])) (ys:=[(.cells (cI (tI (fI8 (mxI (cRw R) s R.length 0) (mxI (cRw R) s R.length 1) (mxI (cRw R) s R.length 2) (mxI (cRw R) s R.length 3) (mxI (cRw R) s R.length 4) (mxI (cRw R) s R.length 5) (mxI (cRw R) s R.length 6) (mxI (cRw R) s R.length 7)) (xlN (cRw R) (0 * 1)))) 2)]) (by rfl) (by exact congrArg (fun z=>[AB.cells (cI z) 2]) (sp_tab (f:=mxI (cRw R) s R.length) (by omega))) (en_retM (by kernel_rfl) (by kernel_rfl) rfl (.inr rfl)))
 ·skip
  have ghqmiOo3_1:=eqI_false hqmiOo3_1
  exact absurd hE (eqI_false hqmiOo3_1)
theorem miOo_g (y:Value) (R:List (Value×List Int)) (e s:Int) (hE:ppE (cRw R) R.length e=0) (hr:0≤s∧s < ((2 ^ R.length:Nat):Int)):GivesM Try.prog 33 [(.agg [.xl y R.length 1 (cRw R),.v (.int .i64 e)]),(.v (.int .i64 s))] [] ((.tup [.sl 0 0 (xlN (cRw R) (0 * 1)) (xlN (cRw R) (0 * 1)),.v (.int .i64 0)])) [(.cells (cI (tI (mxI (cRw R) s R.length) (xlN (cRw R) (0 * 1)))) 2)] :=
 givesM_parts 29 (by kernel_rfl) Try.func33 (by kernel_rfl) (by kernel_rfl) (by kernel_rfl) (fun v eb ec=>goes_less (by kernel_rfl) (by kernel_rfl) (by kernel_rfl) (by kernel_rfl) (miOo_2 y R e s hE hr v eb ec []))
noncomputable def miReK1:Code:=bodyC Try.f34
theorem miRe_2 (y:Value) (R:List (Value×List Int)) (e s:Int) (hE:¬ ppE (cRw R) R.length e=0) (v:BaseW) (eb:Nat→Option Nat) (ec:Nat→Nat) (hs:List Nat):Goes Try.prog 24 miReK1 (⟨[(0,(.agg [.xl y R.length 1 (cRw R),.v (.int .i64 e)])),(1,(.v (.int .i64 s)))],[],0,[]⟩) (BaseW.H (bw v 0 eb ec) hs) (OutM Try.prog Try.f34 24 ((.tup [.v (.slice none 0 0),.v (.int .i64 (ppE (cRw R) R.length e))])) [] (bw v 0 eb ec)):=by
 rcases Bool.eq_false_or_eq_true (eqI (ppE (cRw R) R.length e) 0) with hqmiRe3_1 | hqmiRe3_1
 ·skip
  have ghqmiRe3_1:=eqI_true hqmiRe3_1
  rcases Bool.eq_false_or_eq_true (ltI s 0) with hqmiRe3_2 | hqmiRe3_2
  ·skip
   have ghqmiRe3_2:=ltI_true hqmiRe3_2
   exact absurd (eqI_true hqmiRe3_1) hE
  ·skip
   have ghqmiRe3_2:=ltI_false hqmiRe3_2
   rcases Bool.eq_false_or_eq_true (ltI s (IntKind.i64.wrap (1 * 2 ^ min (((R.length:Nat):Int)).toNat IntKind.i64.bits))) with hqmiRe3_3 | hqmiRe3_3
   ·skip
    have ghqmiRe3_3:=ltI_true hqmiRe3_3
    exact absurd (eqI_true hqmiRe3_1) hE
   ·skip
    have ghqmiRe3_3:=ltI_false hqmiRe3_3
    exact absurd (eqI_true hqmiRe3_1) hE
 ·skip
  have ghqmiRe3_1:=eqI_false hqmiRe3_1
  exact goes_leafA isR_e (goes_cut Try.checked.mixed (known_or known_qr known_qu) 200 (T':=⟨[(4,(.v (Value.slice none 0 0))),(5,(.v (.int .i64 (ppE (cRw R) R.length e))))],[],0,[]⟩) (e:=.ret) (m:=1) (ps:=[IsPal 1 (cRw R) R.length,(!eqI (ppE (cRw R) R.length e) 0)=true,IsPal 1 (cRw R) R.length]) [.go,.go,.go,.go,.go,.b true,.go,.go,.go] (by kernel_rfl) (by kernel_rfl) ⟨⟨rfl,R,rfl,rfl⟩,(by rw [hqmiRe3_1]; rfl),⟨rfl,R,rfl,rfl⟩,trivial⟩ rfl (by show 0≤1; decide) ⟨⟨nb_v _,nb_v _,trivial⟩,trivial,rfl⟩ (by show 0≤0; decide)) (en_eqM (r:=(.tup [(.v (Value.slice none 0 0)),(.v (.int .i64 (ppE (cRw R) R.length e)))])) (ys:=[]) (by rfl) (by rfl) (en_retM (by kernel_rfl) (by kernel_rfl) rfl (.inr rfl)))
theorem miRe_g (y:Value) (R:List (Value×List Int)) (e s:Int) (hE:¬ ppE (cRw R) R.length e=0):GivesM Try.prog 34 [(.agg [.xl y R.length 1 (cRw R),.v (.int .i64 e)]),(.v (.int .i64 s))] [] ((.tup [.v (.slice none 0 0),.v (.int .i64 (ppE (cRw R) R.length e))])) [] :=
 givesM_parts 24 (by kernel_rfl) Try.func34 (by kernel_rfl) (by kernel_rfl) (by kernel_rfl) (fun v eb ec=>goes_less (by kernel_rfl) (by kernel_rfl) (by kernel_rfl) (by kernel_rfl) (miRe_2 y R e s hE v eb ec []))
noncomputable def miRrK1:Code:=bodyC Try.f34
theorem miRr_2 (y:Value) (R:List (Value×List Int)) (e s:Int) (hE:ppE (cRw R) R.length e=0) (hr:¬ (0≤s∧s < ((2 ^ R.length:Nat):Int))) (v:BaseW) (eb:Nat→Option Nat) (ec:Nat→Nat) (hs:List Nat):Goes Try.prog 24 miRrK1 (⟨[(0,(.agg [.xl y R.length 1 (cRw R),.v (.int .i64 e)])),(1,(.v (.int .i64 s)))],[],0,[]⟩) (BaseW.H (bw v 0 eb ec) hs) (OutM Try.prog Try.f34 24 ((.tup [.v (.slice none 0 0),.v (.int .i64 3)])) [] (bw v 0 eb ec)):=by
 obtain ⟨⟨⟨hn1,hn2⟩,hm1,hm2⟩,-,-,he⟩:=ppE_zero hE
 have hpp:=Nat.one_le_two_pow (n:=R.length)
 have hsw:=sets_eq (n:=R.length) (by omega)
 have hpw:=pow_12 (n:=R.length) (by omega)
 rcases Bool.eq_false_or_eq_true (eqI (ppE (cRw R) R.length e) 0) with hqmiRr3_1 | hqmiRr3_1
 ·skip
  have ghqmiRr3_1:=eqI_true hqmiRr3_1
  rcases Bool.eq_false_or_eq_true (ltI s 0) with hqmiRr3_2 | hqmiRr3_2
  ·skip
   have ghqmiRr3_2:=ltI_true hqmiRr3_2
   exact goes_leafA isR_e (goes_cut Try.checked.mixed (known_or known_qr known_qu) 200 (T':=⟨[(4,(.v (Value.slice none 0 0))),(5,(.v (.int .i64 (.ofNat 3))))],[],0,[]⟩) (e:=.ret) (m:=1) (ps:=[IsPal 1 (cRw R) R.length,(!eqI (ppE (cRw R) R.length e) 0)=false,ltI s 0=true,true=true,true=true,true=true,true=true,true=true,true=true]) [.go,.go,.go,.go,.go,.b false,.go,.go,.go,.b true,.b true,.b true,.b true,.b true,.b true,.go,.b true,.go,.go] (by kernel_rfl) (by kernel_rfl) ⟨⟨rfl,R,rfl,rfl⟩,(by rw [hqmiRr3_1]; rfl),hqmiRr3_2,rfl,rfl,rfl,rfl,rfl,rfl,trivial⟩ rfl (by show 0≤1; decide) ⟨⟨nb_v _,nb_v _,trivial⟩,trivial,rfl⟩ (by show 0≤0; decide)) (en_eqM (r:=(.tup [(.v (Value.slice none 0 0)),(.v (.int .i64 (.ofNat 3)))])) (ys:=[]) (by rfl) (by rfl) (en_retM (by kernel_rfl) (by kernel_rfl) rfl (.inr rfl)))
  ·skip
   have ghqmiRr3_2:=ltI_false hqmiRr3_2
   rcases Bool.eq_false_or_eq_true (ltI s (IntKind.i64.wrap (1 * 2 ^ min (((R.length:Nat):Int)).toNat IntKind.i64.bits))) with hqmiRr3_3 | hqmiRr3_3
   ·skip
    have ghqmiRr3_3:=ltI_true hqmiRr3_3
    exfalso
    omega
   ·skip
    have ghqmiRr3_3:=ltI_false hqmiRr3_3
    exact goes_leafA isR_e (goes_cut Try.checked.mixed (known_or known_qr known_qu) 200 (T':=⟨[(4,(.v (Value.slice none 0 0))),(5,(.v (.int .i64 (.ofNat 3))))],[],0,[]⟩) (e:=.ret) (m:=1) (ps:=[IsPal 1 (cRw R) R.length,(!eqI (ppE (cRw R) R.length e) 0)=false,ltI s 0=false,false=false,false=false,false=false,false=false,false=false,(!ltI s (IntKind.i64.wrap (1 * 2 ^ min (((R.length:Nat):Int)).toNat IntKind.i64.bits)))=true]) [.go,.go,.go,.go,.go,.b false,.go,.go,.go,.b false,.go,.b false,.go,.b false,.go,.b false,.go,.b false,.go,.b false,.go,.go,.b true,.go,.go] (by kernel_rfl) (by kernel_rfl) ⟨⟨rfl,R,rfl,rfl⟩,(by rw [hqmiRr3_1]; rfl),hqmiRr3_2,rfl,rfl,rfl,rfl,rfl,(by rw [hqmiRr3_3]; rfl),trivial⟩ rfl (by show 0≤1; decide) ⟨⟨nb_v _,nb_v _,trivial⟩,trivial,rfl⟩ (by show 0≤0; decide)) (en_eqM (r:=(.tup [(.v (Value.slice none 0 0)),(.v (.int .i64 (.ofNat 3)))])) (ys:=[]) (by rfl) (by rfl) (en_retM (by kernel_rfl) (by kernel_rfl) rfl (.inr rfl)))
 ·skip
  have ghqmiRr3_1:=eqI_false hqmiRr3_1
  exact absurd hE (eqI_false hqmiRr3_1)
theorem miRr_g (y:Value) (R:List (Value×List Int)) (e s:Int) (hE:ppE (cRw R) R.length e=0) (hr:¬ (0≤s∧s < ((2 ^ R.length:Nat):Int))):GivesM Try.prog 34 [(.agg [.xl y R.length 1 (cRw R),.v (.int .i64 e)]),(.v (.int .i64 s))] [] ((.tup [.v (.slice none 0 0),.v (.int .i64 3)])) [] :=
 givesM_parts 24 (by kernel_rfl) Try.func34 (by kernel_rfl) (by kernel_rfl) (by kernel_rfl) (fun v eb ec=>goes_less (by kernel_rfl) (by kernel_rfl) (by kernel_rfl) (by kernel_rfl) (miRr_2 y R e s hE hr v eb ec []))
noncomputable def miRoK1:Code:=bodyC Try.f34
theorem miRo_2 (y:Value) (R:List (Value×List Int)) (e s:Int) (hE:ppE (cRw R) R.length e=0) (hr:0≤s∧s < ((2 ^ R.length:Nat):Int)) (v:BaseW) (eb:Nat→Option Nat) (ec:Nat→Nat) (hs:List Nat):Goes Try.prog 24 miRoK1 (⟨[(0,(.agg [.xl y R.length 1 (cRw R),.v (.int .i64 e)])),(1,(.v (.int .i64 s)))],[],0,[]⟩) (BaseW.H (bw v 0 eb ec) hs) (OutM Try.prog Try.f34 24 ((.tup [.sl 0 0 (xlN (cRw R) (0 * 1)) (xlN (cRw R) (0 * 1)),.v (.int .i64 0)])) [(.cells (cI (tI (mxI (cRw R) s R.length) (xlN (cRw R) (0 * 1)))) 2)] (bw v 0 eb ec)):=by
 obtain ⟨⟨⟨hn1,hn2⟩,hm1,hm2⟩,-,-,he⟩:=ppE_zero hE
 have hpp:=Nat.one_le_two_pow (n:=R.length)
 have hsw:=sets_eq (n:=R.length) (by omega)
 have hpw:=pow_12 (n:=R.length) (by omega)
 rcases Bool.eq_false_or_eq_true (eqI (ppE (cRw R) R.length e) 0) with hqmiRo3_1 | hqmiRo3_1
 ·skip
  have ghqmiRo3_1:=eqI_true hqmiRo3_1
  rcases Bool.eq_false_or_eq_true (ltI s 0) with hqmiRo3_2 | hqmiRo3_2
  ·skip
   have ghqmiRo3_2:=ltI_true hqmiRo3_2
   exfalso
   omega
  ·skip
   have ghqmiRo3_2:=ltI_false hqmiRo3_2
   rcases Bool.eq_false_or_eq_true (ltI s (IntKind.i64.wrap (1 * 2 ^ min (((R.length:Nat):Int)).toNat IntKind.i64.bits))) with hqmiRo3_3 | hqmiRo3_3
   ·skip
    have ghqmiRo3_3:=ltI_true hqmiRo3_3
    exact goes_leafA isR_e (goes_cutR Try.checked.mixed (known_or known_qr known_qu) 200 (T':=⟨[(4,(.sl 0 0 (xlN (cRw R) (0 * 1)) (xlN (cRw R) (0 * 1)))),(5,(.v (.int .i64 (.ofNat 0))))],[],1,[(0,(.cells (cI (tI (mxI (cRw R) s R.length) (xlN (cRw R) (0 * 1)))) 2))]⟩) (e:=.ret) (m:=2) (ps:=[IsPal 1 (cRw R) R.length,(!eqI (ppE (cRw R) R.length e) 0)=false,ltI s 0=false,false=false,false=false,false=false,false=false,false=false,(!ltI s (IntKind.i64.wrap (1 * 2 ^ min (((R.length:Nat):Int)).toNat IntKind.i64.bits)))=false,IsPal 1 (cRw R) R.length,ppE (cRw R) R.length e=0,0≤s∧s≤1000000]) [.go,.go,.go,.go,.go,.b false,.go,.go,.go,.b false,.go,.b false,.go,.b false,.go,.b false,.go,.b false,.go,.b false,.go,.go,.b false,.go,.go,.go,.go] [1] [(.sl 1 0 (xlN (cRw R) (0 * 1)) (xlN (cRw R) (0 * 1))),(.v (.int .i64 (.ofNat 0)))] [(.cells (cI (tI (mxI (cRw R) s R.length) (xlN (cRw R) (0 * 1)))) 2)] (by kernel_rfl) (by kernel_rfl) ⟨⟨rfl,R,rfl,rfl⟩,(by rw [hqmiRo3_1]; rfl),hqmiRo3_2,rfl,rfl,rfl,rfl,rfl,(by rw [hqmiRo3_3]; rfl),⟨rfl,R,rfl,rfl⟩,hE,(by constructor <;> omega),trivial⟩ rfl rfl (by decide) rfl ⟨nr_sl rfl,nr_v _,trivial⟩ ⟨⟨by show 0 < 1; decide,nrb_cells (nrl_plain (cI_plain _))⟩,trivial⟩) (en_eqM (r:=(.tup [(.sl 0 0 (xlN (cRw R) (0 * 1)) (xlN (cRw R) (0 * 1))),(.v (.int .i64 (.ofNat 0)))])) (ys:=[(.cells (cI (tI (mxI (cRw R) s R.length) (xlN (cRw R) (0 * 1)))) 2)]) (by rfl) (by rfl) (en_retM (by kernel_rfl) (by kernel_rfl) rfl (.inr rfl)))
   ·skip
    have ghqmiRo3_3:=ltI_false hqmiRo3_3
    exfalso
    omega
 ·skip
  have ghqmiRo3_1:=eqI_false hqmiRo3_1
  exact absurd hE (eqI_false hqmiRo3_1)
theorem miRo_g (y:Value) (R:List (Value×List Int)) (e s:Int) (hE:ppE (cRw R) R.length e=0) (hr:0≤s∧s < ((2 ^ R.length:Nat):Int)):GivesM Try.prog 34 [(.agg [.xl y R.length 1 (cRw R),.v (.int .i64 e)]),(.v (.int .i64 s))] [] ((.tup [.sl 0 0 (xlN (cRw R) (0 * 1)) (xlN (cRw R) (0 * 1)),.v (.int .i64 0)])) [(.cells (cI (tI (mxI (cRw R) s R.length) (xlN (cRw R) (0 * 1)))) 2)] :=
 givesM_parts 24 (by kernel_rfl) Try.func34 (by kernel_rfl) (by kernel_rfl) (by kernel_rfl) (fun v eb ec=>goes_less (by kernel_rfl) (by kernel_rfl) (by kernel_rfl) (by kernel_rfl) (miRo_2 y R e s hE hr v eb ec []))
end
end Go.Proofs.Ytegmogadbnfbgaa
