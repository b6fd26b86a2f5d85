import Derived.Test.YtmankoikpadkpaaA2
import Derived.Test.YtmankoikpadkpaaL7a
import Derived.Test.YtmankoikpadkpaaGr
set_option linter.all false
/- What is known of what the law AtlasAll calls. -/
namespace Go.Proofs.Ytmankoikpadkpaa
open Go Ev
noncomputable section
theorem csE_dg {n:Int} {c:List AV} {m:Nat} {x:Int} (hE:plE n c m=0) (h0:0≤x):csE n c m (cI (dgT m x)) m=0:=by
 unfold csE
 rw [if_pos hE,if_pos rfl,if_pos]
 rw [okS_all]
 intro i hi
 have h:∀ (m:Nat) (x:Int),0≤x→∀ i,i < m → -1≤intAt (cI (dgT m x)) i∧intAt (cI (dgT m x)) i≤1:=by
  intro m
  induction m with
  | zero=>intro x _ i hi; omega
  | succ m ih =>
   intro x hx i hi
   match i,hi with
   | 0,_ =>
    show -1≤Int.tmod x 3 - 1∧Int.tmod x 3 - 1≤1
    rw [Int.tmod_eq_emod_of_nonneg hx]
    omega
   | i + 1,hi =>
    have:=ih (Int.tdiv x 3) (by rw [Int.tdiv_eq_ediv_of_nonneg hx]; omega) i (by omega)
    exact this
 unfold seenAt
 rw [Nat.mul_one]
 exact h m x h0 i hi
theorem dg3 {x:Int} (h:0≤x):0≤Int.tmod x 3∧Int.tmod x 3≤2∧0≤Int.tdiv x 3∧Int.tdiv x 3≤x:=by
 rw [Int.tmod_eq_emod_of_nonneg h,Int.tdiv_eq_ediv_of_nonneg h]
 omega
def tmB (h:Nat→Int) (i:Nat) (k:Int):Nat:=if h i < k then 1 else 0
section
variable {c : List AV} {m p k i : Nat}
theorem G_len (hE:plE ((p:Nat):Int) c m=0) (hk:((k:Nat):Int) < pw3 m):(gotL (seeM c m (padF (dgT m ((k:Nat):Int)))) (1 + 2 * p)).length=cntE (cdH c m) (1 + 2 * p) k:=got_cnt (fun i hi=>see_cd hE rfl hi (by omega) hk)
theorem G_has (hE:plE ((p:Nat):Int) c m=0) (hk:((k:Nat):Int) < pw3 m) (hi:i < 1 + 2 * p):hsB (cR (gotL (seeM c m (padF (dgT m ((k:Nat):Int)))) (1 + 2 * p))) (caseN i).1 (caseN i).2=decide (cdH c m i=k):=by
 rw [hs_got hi,see_cd hE rfl hi (by omega) hk]
theorem al_many (hE:plE ((p:Nat):Int) c m=0) (hk:((k:Nat):Int) < pw3 m):((cntL (cdH c m) (1 + 2 * p) ((k:Nat):Int):Nat):Int) + (((gotL (seeM c m (padF (dgT m ((k:Nat):Int)))) (1 + 2 * p)).length:Nat):Int)=((cntL (cdH c m) (1 + 2 * p) ((k + 1:Nat):Int):Nat):Int):=by
 have e:((k + 1:Nat):Int)=((k:Nat):Int) + 1:=by omega
 rw [G_len hE hk,e,cntL_next]
 omega
theorem al_manyZ (hE:plE ((p:Nat):Int) c m=0) (hk:((k:Nat):Int) < pw3 m) (h0:(gotL (seeM c m (padF (dgT m ((k:Nat):Int)))) (1 + 2 * p)).length=0):((cntL (cdH c m) (1 + 2 * p) ((k:Nat):Int):Nat):Int) + 0=((cntL (cdH c m) (1 + 2 * p) ((k + 1:Nat):Int):Nat):Int):=by
 rw [← al_many hE hk,h0]
 rfl
theorem tm_yes (h:cdH c m i=((k:Nat):Int)):((tmB (cdH c m) i ((k:Nat):Int):Nat):Int) + 1=((tmB (cdH c m) i ((k + 1:Nat):Int):Nat):Int):=by
 unfold tmB
 rw [if_neg (by omega),if_pos (by omega)]
 rfl
theorem tm_no (h:¬ cdH c m i=((k:Nat):Int)):((tmB (cdH c m) i ((k:Nat):Int):Nat):Int)=((tmB (cdH c m) i ((k + 1:Nat):Int):Nat):Int):=by
 unfold tmB
 by_cases e:cdH c m i < ((k:Nat):Int)
 ·rw [if_pos e,if_pos (by omega)]
 ·rw [if_neg e,if_neg (by omega)]
theorem al_t (hE:plE ((p:Nat):Int) c m=0) (hk:((k:Nat):Int) < pw3 m) (hi:i < 1 + 2 * p) (h:hsB (cR (gotL (seeM c m (padF (dgT m ((k:Nat):Int)))) (1 + 2 * p))) (caseN i).1 (caseN i).2=true):cdH c m i=((k:Nat):Int):=by
 rw [G_has hE hk hi] at h
 exact of_decide_eq_true h
theorem al_f (hE:plE ((p:Nat):Int) c m=0) (hk:((k:Nat):Int) < pw3 m) (hi:i < 1 + 2 * p) (h:hsB (cR (gotL (seeM c m (padF (dgT m ((k:Nat):Int)))) (1 + 2 * p))) (caseN i).1 (caseN i).2=false):¬ cdH c m i=((k:Nat):Int):=by
 rw [G_has hE hk hi] at h
 exact of_decide_eq_false h
theorem al_z (hE:plE ((p:Nat):Int) c m=0) (hk:((k:Nat):Int) < pw3 m) (hi:i < 1 + 2 * p) (h:(gotL (seeM c m (padF (dgT m ((k:Nat):Int)))) (1 + 2 * p)).length=0):¬ cdH c m i=((k:Nat):Int):=fun e=>by
 have h1:=got_in (M:=seeM c m (padF (dgT m ((k:Nat):Int)))) hi (by rw [see_cd hE rfl hi (by omega) hk]; exact decide_eq_true e)
 rw [List.eq_nil_of_length_eq_zero h] at h1
 exact absurd h1 List.not_mem_nil
theorem al_same (hE:plE ((p:Nat):Int) c m=0) (hk:((k:Nat):Int) < pw3 m) (hi:i < 1 + 2 * p) (e:cdH c m i=((k:Nat):Int)):smB (cI (dgT m ((k:Nat):Int))) (cI (tabL (sv c m (caseN i).1 (caseN i).2) m))=true:=by
 have hm:=(plE_zero hE).1
 have h1:=(cdN_iff (rv_one hE rfl hi) (by omega) hk).2 e
 have hl:=dgT_len m ((k:Nat):Int)
 refine sm_ok (by rw [hl,tabL_len]) (fun j hj=>?_)
 rw [hl] at hj
 rw [tab_int _ hj,sv_rv hj hm,h1 j hj,cI_int (by rw [hl]; exact hj),List.getD_eq_getElem?_getD,List.getElem?_eq_getElem (by rw [hl]; exact hj)]
 rfl
theorem al_end (hE:plE ((p:Nat):Int) c m=0):cntL (cdH c m) (1 + 2 * p) (pw3 m)=1 + 2 * p:=cntL_all (fun i hi=>(cdH_rng hE rfl hi).2)
theorem al_start (hE:plE ((p:Nat):Int) c m=0):cntL (cdH c m) (1 + 2 * p) 0=0:=cntL_zero (fun i hi=>(cdH_rng hE rfl hi).1)
theorem tm_start (hE:plE ((p:Nat):Int) c m=0) (hi:i < 1 + 2 * p):tmB (cdH c m) i 0=0:=if_neg (by have:=(cdH_rng hE rfl hi).1; omega)
theorem tm_end (hE:plE ((p:Nat):Int) c m=0) (hi:i < 1 + 2 * p):tmB (cdH c m) i (pw3 m)=1:=if_pos (cdH_rng hE rfl hi).2
end
def fiS:List AV→Option (Res1×List Prop):=fun args =>
 match args with
 | [a]=>match planV a with
  | some (n,y,m,c)=>some (.val (.v (.bool (fnB n c m))),[IsR m c])
  | none=>none
 | _=>none
def fiO:OrcH:=extOrc 32 fiS
theorem known_fi:Known Try.prog (clsO fiO):=known_ext (fun args r ps h hp=>by
 unfold fiS at h
 split at h
 ·split at h
  ·rename_i n y m c e
   cases h
   obtain ⟨⟨R,rfl,rfl⟩,-⟩:=hp
   rw [planV_eq e]
   exact ⟨extL_cons (ext_plan n y R) extL_nil,_,rfl,fine_g n y R⟩
  ·cases h
 ·cases h)
def numU (v:AV):Option Int:=match v with
 | .v (.int .u8 b)=>some b
 | _=>none
theorem numU_eq {v:AV} {b:Int} (h:numU v=some b):v = .v (.int .u8 b):=by
 unfold numU at h
 split at h
 ·cases h; rfl
 ·cases h
def fdS:List AV→Option (Res1×List Prop):=fun args =>
 match args with
 | [a,b]=>match planV a,numU b with
  | some (n,y,m,c),some b=>some (.val (.agg [.v (.int .i64 (caseN (fdI b n.toNat)).1),.v (.int .i64 (caseN (fdI b n.toNat)).2)]),[IsR m c,plE n c m=0,0≤b∧b≤255])
  | _,_=>none
 | _=>none
def fdO:OrcH:=extOrc 33 fdS
theorem known_fd:Known Try.prog (clsO fdO):=known_ext (fun args r ps h hp=>by
 unfold fdS at h
 split at h
 ·split at h
  ·rename_i n y m c b e e2
   cases h
   obtain ⟨⟨R,rfl,rfl⟩,hE,hb,-⟩:=hp
   obtain ⟨p,rfl⟩:∃ p:Nat,n=((p:Nat):Int):=⟨n.toNat,by have h9:=(plE_zero hE).2.1; omega⟩
   rw [planV_eq e,numU_eq e2]
   exact ⟨extL_cons (ext_plan _ y R) (extL_cons (ext_v _) extL_nil),_,rfl,faded_g y R p b hE hb⟩
  ·cases h
 ·cases h)
def hsS1:List AV→List AB→Option ((AV×List AB)×List Prop):=fun args xs =>
 match args with
 | [.slu 0 0 n 0,q]=>match numC q,xs with
  | some (a,b),[.row c t 2]=>some ((.v (.bool (hsB c a b)),[.row c t 2]),[t=26,c=cR (unR c)∧n=(unR c).length,n≤1000])
  | _,_=>none
 | _=>none
def hsO1:OrcH:=mOrc 34 hsS1
theorem known_hs1:Known Try.prog (clsO hsO1):=known_m (fun args xs r ys ps h hp=>by
 unfold hsS1 at h
 split at h
 ·rename_i n q
  split at h
  ·rename_i a b c t e
   cases h
   obtain ⟨rfl,⟨e1,hn⟩,hl,-⟩:=hp
   rw [numC_eq e]
   generalize unR c=X at *
   subst e1 hn
   have hf:∀ x,x∈[AB.row (cR X) 26 2]→FreeB x:=fun x hx=>by
    rcases List.mem_cons.1 hx with rfl | hx
    ·exact freeB_row (freeL_plain (cR_plain _))
    ·exact absurd hx List.not_mem_nil
   exact ⟨hf,hf,has_1 X a b hl⟩
  ·cases h
 ·cases h)
def hsS0:List AV→List AB→Option ((AV×List AB)×List Prop):=fun args xs =>
 match args with
 | [.v (.slice none 0 0),q]=>match numC q,xs with
  | some (a,b),[]=>some ((.v (.bool false),[]),[])
  | _,_=>none
 | _=>none
def hsO0:OrcH:=mOrc 34 hsS0
theorem known_hs0:Known Try.prog (clsO hsO0):=known_m (fun args xs r ys ps h hp=>by
 unfold hsS0 at h
 split at h
 ·rename_i q
  split at h
  ·rename_i a b e
   cases h
   rw [numC_eq e]
   exact ⟨fun x hx=>absurd hx List.not_mem_nil,fun x hx=>absurd hx List.not_mem_nil,has_0 a b⟩
  ·cases h
 ·cases h)
def sxS:List Vw→Option (Res1×List Prop):=fun vs =>
 match vs with
 | [.lst n k c,.lst n2 k2 d]=>some (.val (.v (.bool (smB c d))),[IsI k n c,IsI k2 n2 d,n≤1000])
 | _=>none
def sxO:OrcH:=avOrc 20 [1,1] sxS
theorem known_sx:Known Try.prog (clsO sxO):=known_av (fun vs r ps h hp=>by
 unfold sxS at h
 split at h
 ·cases h
  obtain ⟨⟨rfl,X,rfl,rfl⟩,⟨rfl,L,rfl,rfl⟩,hn,-⟩:=hp
  refine ⟨⟨⟨_,cI_plain X⟩,⟨_,cI_plain L⟩,trivial⟩,fun ys hy=>?_⟩
  obtain ⟨y1,y2,rfl⟩:=len2 hy
  exact ⟨_,rfl,same_x y1 y2 X L hn⟩
 ·cases h)
def caSa:List Xv→Option (Res1×List Prop):=fun vs =>
 match vs with
 | [.ext a,.lst j k d]=>match planV a with
  | some (n,y,m,c)=>some (.val (.tup [.v (.slice none 0 0),.v (.int .i64 0)]),[IsR m c,k=1∧d=cI (unI d)∧j=(unI d).length,csE n c m d j=0,(gotL (seeM c m (padF (unI d))) (1 + 2 * n.toNat)).length=0])
  | none=>none
 | _=>none
def caOa:OrcH:=exoOrc 21 [0,1] caSa
theorem known_caa:Known Try.prog (clsO caOa):=known_exo (fun vs r ps h hp=>by
 unfold caSa at h
 split at h
 ·rename_i a j k d
  split at h
  ·rename_i n y m c e
   cases h
   obtain ⟨⟨R,rfl,rfl⟩,⟨rfl,e2,rfl⟩,h0,h1,-⟩:=hp
   obtain ⟨p,rfl⟩:∃ p:Nat,n=((p:Nat):Int):=⟨n.toNat,by have h9:=(plE_zero (csE_zero h0).1).2.1; omega⟩
   generalize unI d=L at *
   subst e2
   rw [planV_eq e]
   refine ⟨⟨ext_plan _ y R,⟨_,cI_plain L⟩,trivial⟩,fun ys hy=>?_⟩
   obtain ⟨y1,y2,rfl⟩:=len2 hy
   exact ⟨_,rfl,givesA_of (oc_a y y2 R p L h0 h1) rfl⟩
  ·cases h
 ·cases h)
def caSb:List Xv→Option (Res1×List Prop):=fun vs =>
 match vs with
 | [.ext a,.lst j k d]=>match planV a with
  | some (n,y,m,c)=>some (.blk (fun b=>.tup [.slu b 0 (gotL (seeM c m (padF (unI d))) (1 + 2 * n.toNat)).length 0,.v (.int .i64 0)]) (.row (cR (gotL (seeM c m (padF (unI d))) (1 + 2 * n.toNat))) 26 2),[IsR m c,k=1∧d=cI (unI d)∧j=(unI d).length,csE n c m d j=0,0 < (gotL (seeM c m (padF (unI d))) (1 + 2 * n.toNat)).length])
  | none=>none
 | _=>none
def caOb:OrcH:=exoOrc 21 [0,1] caSb
theorem known_cab:Known Try.prog (clsO caOb):=known_exo (fun vs r ps h hp=>by
 unfold caSb at h
 split at h
 ·rename_i a j k d
  split at h
  ·rename_i n y m c e
   cases h
   obtain ⟨⟨R,rfl,rfl⟩,⟨rfl,e2,rfl⟩,h0,h1,-⟩:=hp
   obtain ⟨p,rfl⟩:∃ p:Nat,n=((p:Nat):Int):=⟨n.toNat,by have h9:=(plE_zero (csE_zero h0).1).2.1; omega⟩
   generalize unI d=L at *
   subst e2
   rw [planV_eq e]
   refine ⟨⟨ext_plan _ y R,⟨_,cI_plain L⟩,trivial⟩,fun ys hy=>?_⟩
   obtain ⟨y1,y2,rfl⟩:=len2 hy
   exact givesB_of (oc_b y y2 R p L h0 h1) (one_sluE _ _ (cR_plain _))
  ·cases h
 ·cases h)
def laO0 (o:OrcH):OrcH:=orO (orO (orO fiO wkC) (orO fdO seYO0)) (orO (orO hsO0 hsO1) (orO sxO o))
theorem known_la0 {o:OrcH} (hw:Known Try.prog (clsO wkC)) (ho:Known Try.prog (clsO o)):Known Try.prog (clsO (laO0 o)):=known_or (known_or (known_or known_fi hw) (known_or known_fd known_seY0)) (known_or (known_or known_hs0 known_hs1) (known_or known_sx ho))
def laO1 (o:OrcH):OrcH:=orO (orO (orO fiO wkC) (orO fdO seYO1)) (orO (orO hsO0 hsO1) (orO sxO o))
theorem known_la1 {o:OrcH} (hw:Known Try.prog (clsO wkC)) (ho:Known Try.prog (clsO o)):Known Try.prog (clsO (laO1 o)):=known_or (known_or (known_or known_fi hw) (known_or known_fd known_seY1)) (known_or (known_or known_hs0 known_hs1) (known_or known_sx ho))
def laO2 (o:OrcH):OrcH:=orO (orO (orO fiO wkC) (orO fdO seYO2)) (orO (orO hsO0 hsO1) (orO sxO o))
theorem known_la2 {o:OrcH} (hw:Known Try.prog (clsO wkC)) (ho:Known Try.prog (clsO o)):Known Try.prog (clsO (laO2 o)):=known_or (known_or (known_or known_fi hw) (known_or known_fd known_seY2)) (known_or (known_or known_hs0 known_hs1) (known_or known_sx ho))
def laO3 (o:OrcH):OrcH:=orO (orO (orO fiO wkC) (orO fdO seYO3)) (orO (orO hsO0 hsO1) (orO sxO o))
theorem known_la3 {o:OrcH} (hw:Known Try.prog (clsO wkC)) (ho:Known Try.prog (clsO o)):Known Try.prog (clsO (laO3 o)):=known_or (known_or (known_or known_fi hw) (known_or known_fd known_seY3)) (known_or (known_or known_hs0 known_hs1) (known_or known_sx ho))
def laO4 (o:OrcH):OrcH:=orO (orO (orO fiO wkC) (orO fdO seYO4)) (orO (orO hsO0 hsO1) (orO sxO o))
theorem known_la4 {o:OrcH} (hw:Known Try.prog (clsO wkC)) (ho:Known Try.prog (clsO o)):Known Try.prog (clsO (laO4 o)):=known_or (known_or (known_or known_fi hw) (known_or known_fd known_seY4)) (known_or (known_or known_hs0 known_hs1) (known_or known_sx ho))
end
end Go.Proofs.Ytmankoikpadkpaa
