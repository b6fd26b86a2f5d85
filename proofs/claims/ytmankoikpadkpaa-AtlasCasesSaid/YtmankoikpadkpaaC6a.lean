import Derived.Test.YtmankoikpadkpaaC4b
import Derived.Test.YtmankoikpadkpaaC5b
import Derived.Test.YtmankoikpadkpaaC5c
import Derived.Test.YtmankoikpadkpaaC5d
import Derived.Test.YtmankoikpadkpaaC5e
import Derived.Test.YtmankoikpadkpaaL4
set_option linter.all false
/- What is known of what the law AtlasCases calls. -/
namespace Go.Proofs.Ytmankoikpadkpaa
open Go Ev
noncomputable section
noncomputable def c0K1:Code:=bodyC Try.f23
set_option maxHeartbeats 2000000 in
theorem c0_2  (v:BaseW) (eb:Nat→Option Nat) (ec:Nat→Nat) (hs:List Nat):Goes Try.prog 26 c0K1 (⟨[(0,(.v (.slice none 0 0))),(1,(.v (.slice none 0 0)))],[],0,[]⟩) (BaseW.H (bw v 0 eb ec) hs) (OutM Try.prog Try.f23 26 ((.v (.bool .true))) [] (bw v 0 eb ec)):=by
 exact goes_leafA isR_e (goes_told Try.checked.mixed (known_none) 200 (T':=⟨[(4,(.v (.bool .true)))],[],0,[]⟩) (e:=.ret) (ps:=[(!eqI ((0:Nat):Int) ((0:Nat):Int))=false,ltI 0 ((0:Nat):Int)=false]) [.go,.go,.go,.go,.go,.go,.b false,.go,.go,.go,.go,.go,.b false,.go] (by kernel_rfl) (by kernel_rfl) ⟨rfl,rfl,trivial⟩ rfl) (en_eqM (r:=(.v (.bool .true))) (ys:=[]) (by rfl) (by rfl) (en_retM (by kernel_rfl) (by kernel_rfl) rfl (.inr rfl)))
theorem cases_0  : GivesM Try.prog 23 [(.v (.slice none 0 0)),(.v (.slice none 0 0))] [] ((.v (.bool .true))) [] :=
 givesM_parts 26 (by kernel_rfl) Try.func23 (by kernel_rfl) (by kernel_rfl) (by kernel_rfl) (fun v eb ec=>goes_less (by kernel_rfl) (by kernel_rfl) (by kernel_rfl) (by kernel_rfl) (c0_2  v eb ec []))
theorem got_z (c:List AV) (n:Nat):gotL (recM c 0 []) n=casL n:=got_all (fun q=>decide_eq_true (fun j hj=>absurd hj (Nat.not_lt_zero j))) n
theorem got_zs (c:List AV) (n:Nat):gotL (seeM c 0 (padF [])) n=casL n:=got_all (fun q=>(see_rec (m:=0) (L:=[]) (by omega) rfl q).trans (decide_eq_true (fun j hj=>absurd hj (Nat.not_lt_zero j)))) n
theorem oc_a (y z:Value) (R:List (Value×List Int)) (p:Nat) (L:List Int) (h:csE ((p:Nat):Int) (cRw R) R.length (cI L) L.length=0) (h0:(gotL (seeM (cRw R) R.length (padF L)) (1 + 2 * p)).length=0):GivesM Try.prog 21 [.agg [.v (.int .i64 ((p:Nat):Int)),.xl y R.length 1 (cRw R)],.xl z L.length 1 (cI L)] [] (.tup [.v (.slice none 0 0),.v (.int .i64 0)]) []:=by
 obtain ⟨hE,hl,hS⟩:=csE_zero h
 have hm:=(plE_zero hE).1
 clear h
 generalize hR:R.length=m at *
 subst hl
 match L,hR,hE,hS,hm,h0 with
 | [],hR,hE,hS,hm,h0 =>
  exfalso
  have h7:(gotL (seeM (cRw R) 0 (padF [])) (1 + 2 * p)).length=0:=h0
  rw [got_zs,cas_len] at h7
  omega
 | [a0],hR,hE,hS,hm,h0=>exact Cases_a1 y R z p a0 hR.symm hE hS h0
 | [a0,a1],hR,hE,hS,hm,h0=>exact Cases_a2 y R z p a0 a1 hR.symm hE hS h0
 | [a0,a1,a2],hR,hE,hS,hm,h0=>exact Cases_a3 y R z p a0 a1 a2 hR.symm hE hS h0
 | [a0,a1,a2,a3],hR,hE,hS,hm,h0=>exact Cases_a4 y R z p a0 a1 a2 a3 hR.symm hE hS h0
 | a0 :: a1 :: a2 :: a3 :: a4 :: l,hR,hE,hS,hm,h0=>exact absurd hm (by simp only [List.length_cons]; omega)
theorem oc_b (y z:Value) (R:List (Value×List Int)) (p:Nat) (L:List Int) (h:csE ((p:Nat):Int) (cRw R) R.length (cI L) L.length=0) (h0:0 < (gotL (seeM (cRw R) R.length (padF L)) (1 + 2 * p)).length):GivesM Try.prog 21 [.agg [.v (.int .i64 ((p:Nat):Int)),.xl y R.length 1 (cRw R)],.xl z L.length 1 (cI L)] [] (.tup [.slu 0 0 (gotL (seeM (cRw R) R.length (padF L)) (1 + 2 * p)).length 0,.v (.int .i64 0)]) [.row (cR (gotL (seeM (cRw R) R.length (padF L)) (1 + 2 * p))) 26 2]:=by
 obtain ⟨hE,hl,hS⟩:=csE_zero h
 have hm:=(plE_zero hE).1
 clear h
 generalize hR:R.length=m at *
 subst hl
 match L,hR,hE,hS,hm,h0 with
 | [],hR,hE,hS,hm,h0=>exact Cases_b0 y R z p  hR.symm hE hS h0
 | [a0],hR,hE,hS,hm,h0=>exact Cases_b1 y R z p a0 hR.symm hE hS h0
 | [a0,a1],hR,hE,hS,hm,h0=>exact Cases_b2 y R z p a0 a1 hR.symm hE hS h0
 | [a0,a1,a2],hR,hE,hS,hm,h0=>exact Cases_b3 y R z p a0 a1 a2 hR.symm hE hS h0
 | [a0,a1,a2,a3],hR,hE,hS,hm,h0=>exact Cases_b4 y R z p a0 a1 a2 a3 hR.symm hE hS h0
 | a0 :: a1 :: a2 :: a3 :: a4 :: l,hR,hE,hS,hm,h0=>exact absurd hm (by simp only [List.length_cons]; omega)
theorem rc_a (y z:Value) (R:List (Value×List Int)) (p:Nat) (L:List Int) (h:csE ((p:Nat):Int) (cRw R) R.length (cI L) L.length=0) (h0:(gotL (seeM (cRw R) R.length (padF L)) (1 + 2 * p)).length=0):GivesM Try.prog 22 [.agg [.v (.int .i64 ((p:Nat):Int)),.xl y R.length 1 (cRw R)],.xl z L.length 1 (cI L)] [] (.tup [.v (.slice none 0 0),.v (.int .i64 0)]) []:=by
 obtain ⟨hE,hl,hS⟩:=csE_zero h
 have hm:=(plE_zero hE).1
 clear h
 generalize hR:R.length=m at *
 subst hl
 have e:seeM (cRw R) L.length (padF L)=recM (cRw R) L.length L:=funext (fun q=>see_rec hm rfl q)
 rw [e] at h0
 match L,hR,hE,hS,h0 with
 | [],hR,hE,hS,h0 =>
  exfalso
  have h7:(gotL (recM (cRw R) 0 []) (1 + 2 * p)).length=0:=h0
  rw [got_z,cas_len] at h7
  omega
 | a :: l,hR,hE,hS,h0=>exact rCases_a y R z p l.length (a :: l) hR.symm rfl hE hS h0
theorem rc_b (y z:Value) (R:List (Value×List Int)) (p:Nat) (L:List Int) (h:csE ((p:Nat):Int) (cRw R) R.length (cI L) L.length=0) (h0:0 < (gotL (seeM (cRw R) R.length (padF L)) (1 + 2 * p)).length):GivesM Try.prog 22 [.agg [.v (.int .i64 ((p:Nat):Int)),.xl y R.length 1 (cRw R)],.xl z L.length 1 (cI L)] [] (.tup [.slu 0 0 (gotL (seeM (cRw R) R.length (padF L)) (1 + 2 * p)).length 0,.v (.int .i64 0)]) [.row (cR (gotL (seeM (cRw R) R.length (padF L)) (1 + 2 * p))) 26 2]:=by
 obtain ⟨hE,hl,hS⟩:=csE_zero h
 have hm:=(plE_zero hE).1
 clear h
 generalize hR:R.length=m at *
 subst hl
 have e:seeM (cRw R) L.length (padF L)=recM (cRw R) L.length L:=funext (fun q=>see_rec hm rfl q)
 rw [e] at h0 ⊢
 match L,hR,hE,hS,h0 with
 | [],hR,hE,hS,h0 =>
  show GivesM _ _ _ _ (.tup [.slu 0 0 (gotL (recM (cRw R) 0 []) (1 + 2 * p)).length 0,.v (.int .i64 0)]) [.row (cR (gotL (recM (cRw R) 0 []) (1 + 2 * p))) 26 2]
  rw [got_z,cas_len,show 1 + 2 * p=2 * p + 1 by omega]
  exact rCases_0 y R z p hR.symm hE
 | a :: l,hR,hE,hS,h0=>exact rCases_b y R z p l.length (a :: l) hR.symm rfl hE hS h0
def oxS:List AV→List AB→Option ((AV×List AB)×List Prop):=fun args xs =>
 match args with
 | [a,.xl z j k d]=>match planV a,xs with
  | some (n,y,m,c),[]=>some ((.tup [.v (.slice none 0 0),.v (.int .i64 (csE n c m d j))],[]),[IsR m c,k=1∧d=cI (unI d)∧j=(unI d).length,¬ csE n c m d j=0])
  | _,_=>none
 | _=>none
def oxO:OrcH:=mOrc 21 oxS
theorem known_ox:Known Try.prog (clsO oxO):=known_m (fun args xs r ys ps h hp=>by
 unfold oxS at h
 split at h
 ·rename_i a z j k d
  split at h
  ·rename_i n y m c e
   cases h
   obtain ⟨⟨R,rfl,rfl⟩,⟨rfl,e2,rfl⟩,h0,hp⟩:=hp
   rw [planV_eq e]
   generalize unI d=L at *
   subst e2
   exact ⟨fun x hx=>absurd hx List.not_mem_nil,fun x hx=>absurd hx List.not_mem_nil,Cases_bad y R z n L h0⟩
  ·cases h
 ·cases h)
def rxS:List AV→List AB→Option ((AV×List AB)×List Prop):=fun args xs =>
 match args with
 | [a,.xl z j k d]=>match planV a,xs with
  | some (n,y,m,c),[]=>some ((.tup [.v (.slice none 0 0),.v (.int .i64 (csE n c m d j))],[]),[IsR m c,k=1∧d=cI (unI d)∧j=(unI d).length,¬ csE n c m d j=0])
  | _,_=>none
 | _=>none
def rxO:OrcH:=mOrc 22 rxS
theorem known_rx:Known Try.prog (clsO rxO):=known_m (fun args xs r ys ps h hp=>by
 unfold rxS at h
 split at h
 ·rename_i a z j k d
  split at h
  ·rename_i n y m c e
   cases h
   obtain ⟨⟨R,rfl,rfl⟩,⟨rfl,e2,rfl⟩,h0,hp⟩:=hp
   rw [planV_eq e]
   generalize unI d=L at *
   subst e2
   exact ⟨fun x hx=>absurd hx List.not_mem_nil,fun x hx=>absurd hx List.not_mem_nil,rCases_bad y R z n L h0⟩
  ·cases h
 ·cases h)
def oaS:List AV→List AB→Option ((AV×List AB)×List Prop):=fun args xs =>
 match args with
 | [a,.xl z j k d]=>match planV a,xs with
  | some (n,y,m,c),[]=>some ((.tup [.v (.slice none 0 0),.v (.int .i64 0)],[]),[IsR m c,k=1∧d=cI (unI d)∧j=(unI d).length,csE n c m d j=0,(gotL (seeM c m (padF (unI d))) (1 + 2 * n.toNat)).length=0])
  | _,_=>none
 | _=>none
def oaO:OrcH:=mOrc 21 oaS
theorem known_oa:Known Try.prog (clsO oaO):=known_m (fun args xs r ys ps h hp=>by
 unfold oaS at h
 split at h
 ·rename_i a z j k d
  split at h
  ·rename_i n y m c e
   cases h
   obtain ⟨⟨R,rfl,rfl⟩,⟨rfl,e2,rfl⟩,h0,hp⟩:=hp
   rw [planV_eq e]
   generalize unI d=L at *
   subst e2
   obtain ⟨p,rfl⟩:∃ p:Nat,n=((p:Nat):Int):=⟨n.toNat,by have h9:=(plE_zero (csE_zero h0).1).2.1; omega⟩
   obtain ⟨h1,-⟩:=hp
   exact ⟨fun x hx=>absurd hx List.not_mem_nil,fun x hx=>absurd hx List.not_mem_nil,oc_a y z R p L h0 h1⟩
  ·cases h
 ·cases h)
def raS:List AV→List AB→Option ((AV×List AB)×List Prop):=fun args xs =>
 match args with
 | [a,.xl z j k d]=>match planV a,xs with
  | some (n,y,m,c),[]=>some ((.tup [.v (.slice none 0 0),.v (.int .i64 0)],[]),[IsR m c,k=1∧d=cI (unI d)∧j=(unI d).length,csE n c m d j=0,(gotL (seeM c m (padF (unI d))) (1 + 2 * n.toNat)).length=0])
  | _,_=>none
 | _=>none
def raO:OrcH:=mOrc 22 raS
theorem known_ra:Known Try.prog (clsO raO):=known_m (fun args xs r ys ps h hp=>by
 unfold raS at h
 split at h
 ·rename_i a z j k d
  split at h
  ·rename_i n y m c e
   cases h
   obtain ⟨⟨R,rfl,rfl⟩,⟨rfl,e2,rfl⟩,h0,hp⟩:=hp
   rw [planV_eq e]
   generalize unI d=L at *
   subst e2
   obtain ⟨p,rfl⟩:∃ p:Nat,n=((p:Nat):Int):=⟨n.toNat,by have h9:=(plE_zero (csE_zero h0).1).2.1; omega⟩
   obtain ⟨h1,-⟩:=hp
   exact ⟨fun x hx=>absurd hx List.not_mem_nil,fun x hx=>absurd hx List.not_mem_nil,rc_a y z R p L h0 h1⟩
  ·cases h
 ·cases h)
def obS:List AV→List AB→Option ((AV×List AB)×List Prop):=fun args xs =>
 match args with
 | [a,.xl z j k d]=>match planV a,xs with
  | some (n,y,m,c),[]=>some ((.tup [.slu 0 0 (gotL (seeM c m (padF (unI d))) (1 + 2 * n.toNat)).length 0,.v (.int .i64 0)],[.row (cR (gotL (seeM c m (padF (unI d))) (1 + 2 * n.toNat))) 26 2]),[IsR m c,k=1∧d=cI (unI d)∧j=(unI d).length,csE n c m d j=0,0 < (gotL (seeM c m (padF (unI d))) (1 + 2 * n.toNat)).length])
  | _,_=>none
 | _=>none
def obO:OrcH:=mOrc 21 obS
theorem known_ob:Known Try.prog (clsO obO):=known_m (fun args xs r ys ps h hp=>by
 unfold obS at h
 split at h
 ·rename_i a z j k d
  split at h
  ·rename_i n y m c e
   cases h
   obtain ⟨⟨R,rfl,rfl⟩,⟨rfl,e2,rfl⟩,h0,hp⟩:=hp
   rw [planV_eq e]
   generalize unI d=L at *
   subst e2
   obtain ⟨p,rfl⟩:∃ p:Nat,n=((p:Nat):Int):=⟨n.toNat,by have h9:=(plE_zero (csE_zero h0).1).2.1; omega⟩
   obtain ⟨h1,-⟩:=hp
   exact ⟨fun x hx=>absurd hx List.not_mem_nil,fun x hx=>by rcases List.mem_cons.1 hx with rfl | hx; exact freeB_row (freeL_plain (cR_plain _)); exact absurd hx List.not_mem_nil,oc_b y z R p L h0 h1⟩
  ·cases h
 ·cases h)
def rbS:List AV→List AB→Option ((AV×List AB)×List Prop):=fun args xs =>
 match args with
 | [a,.xl z j k d]=>match planV a,xs with
  | some (n,y,m,c),[]=>some ((.tup [.slu 0 0 (gotL (seeM c m (padF (unI d))) (1 + 2 * n.toNat)).length 0,.v (.int .i64 0)],[.row (cR (gotL (seeM c m (padF (unI d))) (1 + 2 * n.toNat))) 26 2]),[IsR m c,k=1∧d=cI (unI d)∧j=(unI d).length,csE n c m d j=0,0 < (gotL (seeM c m (padF (unI d))) (1 + 2 * n.toNat)).length])
  | _,_=>none
 | _=>none
def rbO:OrcH:=mOrc 22 rbS
theorem known_rb:Known Try.prog (clsO rbO):=known_m (fun args xs r ys ps h hp=>by
 unfold rbS at h
 split at h
 ·rename_i a z j k d
  split at h
  ·rename_i n y m c e
   cases h
   obtain ⟨⟨R,rfl,rfl⟩,⟨rfl,e2,rfl⟩,h0,hp⟩:=hp
   rw [planV_eq e]
   generalize unI d=L at *
   subst e2
   obtain ⟨p,rfl⟩:∃ p:Nat,n=((p:Nat):Int):=⟨n.toNat,by have h9:=(plE_zero (csE_zero h0).1).2.1; omega⟩
   obtain ⟨h1,-⟩:=hp
   exact ⟨fun x hx=>absurd hx List.not_mem_nil,fun x hx=>by rcases List.mem_cons.1 hx with rfl | hx; exact freeB_row (freeL_plain (cR_plain _)); exact absurd hx List.not_mem_nil,rc_b y z R p L h0 h1⟩
  ·cases h
 ·cases h)
def cs0S:List AV→List AB→Option ((AV×List AB)×List Prop):=fun args xs =>
 match args with
 | [.v (.slice none 0 0),.v (.slice none 0 0)]=>match xs with
  | []=>some ((.v (.bool true),[]),[])
  | _=>none
 | _=>none
def cs0O:OrcH:=mOrc 23 cs0S
theorem known_cs0:Known Try.prog (clsO cs0O):=known_m (fun args xs r ys ps h hp=>by
 unfold cs0S at h
 split at h
 ·split at h
  ·cases h
   exact ⟨fun x hx=>absurd hx List.not_mem_nil,fun x hx=>absurd hx List.not_mem_nil,cases_0⟩
  ·cases h
 ·cases h)
def cs1S:List AV→List AB→Option ((AV×List AB)×List Prop):=fun args xs =>
 match args with
 | [.slu 0 0 n 0,.slu 1 0 n2 0]=>match xs with
  | [.row c t 2,.row d t2 2]=>some ((.v (.bool true),[.row c t 2,.row d t2 2]),[n2=n∧d=c∧t=26∧t2=26,c=cR (unR c)∧n=(unR c).length,n≤1000])
  | _=>none
 | _=>none
def cs1O:OrcH:=mOrc 23 cs1S
theorem known_cs1:Known Try.prog (clsO cs1O):=known_m (fun args xs r ys ps h hp=>by
 unfold cs1S at h
 split at h
 ·split at h
  ·rename_i n n2 c t d t2
   cases h
   obtain ⟨⟨rfl,rfl,rfl,rfl⟩,⟨e,hn⟩,hl,-⟩:=hp
   generalize unR d=X at *
   subst e hn
   have hf:∀ x,x∈[AB.row (cR X) 26 2,AB.row (cR X) 26 2]→FreeB x:=fun x hx=>by
    rcases List.mem_cons.1 hx with rfl | hx
    ·exact freeB_row (freeL_plain (cR_plain _))
    ·rcases List.mem_cons.1 hx with rfl | hx
     ·exact freeB_row (freeL_plain (cR_plain _))
     ·exact absurd hx List.not_mem_nil
   exact ⟨hf,hf,cases_g X hl⟩
  ·cases h
 ·cases h)
def wkcS:List Value→Option AV:=fun xs=>match xs with | []=>some (.v (.bool true)) | _=>none
def wkC:OrcH:=plainOrc 15 wkcS
def grcS:List AV→Option (Res1×List Prop):=fun args =>
 match args with
 | [a]=>match planV a with
  | some (n,y,m,c)=>some (.val (.v (.bool (grB c m))),[IsR m c])
  | none=>none
 | _=>none
def grC:OrcH:=extOrc 14 grcS
theorem known_grc:Known Try.prog (clsO grC):=known_ext (fun args r ps h hp=>by
 unfold grcS at h
 split at h
 ·split at h
  ·rename_i n y m c e
   cases h
   obtain ⟨⟨R,rfl,rfl⟩,-⟩:=hp
   rw [planV_eq e]
   exact ⟨extL_cons (ext_plan n y R) extL_nil,_,rfl,gr_g n y R⟩
  ·cases h
 ·cases h)
def lcx:OrcH:=orO (orO grC wkC) (orO (orO oxO rxO) cs0O)
def lca:OrcH:=orO (orO grC wkC) (orO (orO oaO raO) cs0O)
def lcb:OrcH:=orO (orO grC wkC) (orO (orO obO rbO) cs1O)
theorem known_lcx (hw:Known Try.prog (clsO wkC)):Known Try.prog (clsO lcx):=known_or (known_or known_grc hw) (known_or (known_or known_ox known_rx) known_cs0)
theorem known_lca (hw:Known Try.prog (clsO wkC)):Known Try.prog (clsO lca):=known_or (known_or known_grc hw) (known_or (known_or known_oa known_ra) known_cs0)
theorem known_lcb (hw:Known Try.prog (clsO wkC)):Known Try.prog (clsO lcb):=known_or (known_or known_grc hw) (known_or (known_or known_ob known_rb) known_cs1)
end
end Go.Proofs.Ytmankoikpadkpaa
