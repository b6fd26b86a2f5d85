import Derived.Test.YtnphldmnakbknaaO3
set_option linter.all false
/- Mathematics of the dead posts that are taken out of a choice. -/
namespace Go.Proofs.Ytnphldmnakbknaa
open Go Ev
noncomputable section
theorem flt_pair {st:Nat→Bool}:∀ m,(flt st m).Pairwise (· < ·)
 | 0=>List.Pairwise.nil
 | m + 1=>by
  simp only [flt]
  split
  ·exact List.pairwise_append.2 ⟨flt_pair m,List.pairwise_singleton ..,fun a ha b hb=>by
    have:=flt_mem ha
    rw [List.mem_singleton.1 hb]
    omega⟩
  ·exact flt_pair m
theorem chP_flt {st:Nat→Bool} {m:Nat}:chP (cI (flt st m)) (flt st m).length m :=
 ⟨fun i hi=>by rw [Nat.mul_one]; exact flt_int hi,fun i hi=>by
  rw [Nat.mul_one,Nat.mul_one,cI_int (show i < (flt st m).length by omega),cI_int hi]
  exact List.pairwise_iff_getElem.1 (flt_pair m) i (i + 1) (by omega) hi (by omega)⟩
theorem icE_flt {n d q:Int} {c:List AV} {m:Nat} {st:Nat→Bool} (h:roE n d q c m=0):icE n d q c m (cI (flt st m)) (flt st m).length=0:=by
 unfold icE
 rw [if_pos h,if_pos (chB_true.2 chP_flt)]
def ouL (F:List Int) (d u v:Int):Nat→List Int
 | 0=>[]
 | i + 1=>if (((ouL F d u v i).length:Nat):Int) < d∧(((i:Nat):Int)=u∨((i:Nat):Int)=v) then ouL F d u v i ++ [intAt (cI F) (0 + i * 1)] else ouL F d u v i
section
variable {F : List Int} {d u v : Int} {i k : Nat}
theorem ou_t (h:(((ouL F d u v i).length:Nat):Int) < d) (h2:((i:Nat):Int)=u∨((i:Nat):Int)=v):ouL F d u v (i + 1)=ouL F d u v i ++ [intAt (cI F) (0 + i * 1)]:=by rw [ouL,if_pos ⟨h,h2⟩]
theorem ou_f (h:¬ ((((ouL F d u v i).length:Nat):Int) < d∧(((i:Nat):Int)=u∨((i:Nat):Int)=v))):ouL F d u v (i + 1)=ouL F d u v i:=by rw [ouL,if_neg h]
theorem ou_lenT (h:(((ouL F d u v i).length:Nat):Int) < d) (h2:((i:Nat):Int)=u∨((i:Nat):Int)=v) (hc:(ouL F d u v i).length=k):(ouL F d u v (i + 1)).length=k + 1:=by rw [ou_t h h2,List.length_append,hc]; rfl
theorem ou_lenF (h:¬ ((((ouL F d u v i).length:Nat):Int) < d∧(((i:Nat):Int)=u∨((i:Nat):Int)=v))) (hc:(ouL F d u v i).length=k):(ouL F d u v (i + 1)).length=k:=by rw [ou_f h,hc]
theorem ou_rowT (h:(((ouL F d u v i).length:Nat):Int) < d) (h2:((i:Nat):Int)=u∨((i:Nat):Int)=v):cI (ouL F d u v (i + 1))=cI (ouL F d u v i) ++ [.v (.int .i64 (intAt (cI F) (0 + i * 1)))]:=by rw [ou_t h h2,← cI_app]; rfl
theorem ou_rowF (h:¬ ((((ouL F d u v i).length:Nat):Int) < d∧(((i:Nat):Int)=u∨((i:Nat):Int)=v))):cI (ouL F d u v (i + 1))=cI (ouL F d u v i):=by rw [ou_f h]
theorem ou_nil (h:(ouL F d u v i).length=0):cI (ouL F d u v i)=[]:=by rw [List.eq_nil_of_length_eq_zero h]; rfl
theorem takeO (hc:(ouL F d u v i).length=k + 1):List.take ((k + 1) * 1) (List.drop 0 (cI (ouL F d u v i)))=cI (ouL F d u v i):=by
 rw [← hc]; rw [List.drop_zero,List.take_of_length_le (by rw [cI_len]; omega)]
theorem ou_le:∀ i,(ouL F d u v i).length≤i
 | 0=>Nat.le_refl _
 | i + 1=>by
  have ih:=ou_le i
  rw [ouL]
  split
  ·rw [List.length_append]; simp only [List.length_singleton]; omega
  ·omega
theorem ou_d (hd:0≤d):∀ i,(((ouL F d u v i).length:Nat):Int)≤d
 | 0=>hd
 | i + 1=>by
  have ih:=ou_d hd i
  rw [ouL]
  split
  ·rename_i h
   rw [List.length_append]; simp only [List.length_singleton]; omega
  ·exact ih
theorem ou_sub:∀ {i:Nat},i≤F.length→(ouL F d u v i).Sublist (F.take i)
 | 0,_=>List.nil_sublist _
 | i + 1,h=>by
  have ih:=ou_sub (i:=i) (by omega)
  have e:intAt (cI F) (0 + i * 1)=F[i]:=by rw [Nat.zero_add,Nat.mul_one]; exact cI_int (by omega)
  rw [List.take_succ_eq_append_getElem (show i < F.length by omega),ouL]
  split
  ·rw [e]; exact List.Sublist.append ih (List.Sublist.refl _)
  ·exact ih.trans (List.sublist_append_left _ _)
theorem ou_dd (hd:0≤d) (hF:F.Pairwise (· < ·)):ddP (cI F) F.length (cI (ouL F d u v F.length)) (ouL F d u v F.length).length d:=by
 have h1:=ou_sub (F:=F) (d:=d) (u:=u) (v:=v) (Nat.le_refl F.length)
 rw [List.take_of_length_le (Nat.le_refl _)] at h1
 refine ⟨ou_d hd _,inc_pair (hF.sublist h1),fun i hi=>?_⟩
 rw [Nat.mul_one,cI_int hi]
 exact inB_mem.2 (h1.subset (List.getElem_mem hi))
end
theorem one_slu3 {l:List AV} {vs:List Value} {t:TypeId} {z:Nat} (n:Nat) (u e:Int) (h:plainL l=some vs):OneName (fun b=>.tup [.v (.int .i64 u),.slu b 0 n 0,.v (.int .i64 e)]) (.row l t z):=by
 refine ⟨fun σ τ b N B hb r hr=>?_,fun σ τ b N B _ o k=>one_row h σ τ b N B o k⟩
 simp only [den,denL,hb,Env.put_at,Env.put_cap,Option.bind_some] at hr ⊢
 exact hr
def yDaS:List Xv→Option (Res1×List Prop):=fun vs =>
 match vs with
 | [.ext a,.lst k j e]=>match roadV a with
  | some (n,d,q,y,m,c)=>some (.val (.tup [.v (.int .i64 (0)),.v (.slice none 0 0),.v (.int .i64 0)]),[IsT m c,IsC j k e,icE n d q c m e k=0,k≤1000,k=0])
  | none=>none
 | _=>none
def yDaO:OrcH:=exoOrc 24 [0,1] yDaS
theorem known_yDa:Known pg (clsO yDaO):=known_exo (fun vs r ps h hp=>by
 unfold yDaS at h
 split at h
 ·split at h
  ·rename_i n d q y m c e2
   cases h
   obtain ⟨⟨P,rfl,rfl⟩,⟨rfl,C,rfl,rfl⟩,hE,hk,h1,-⟩:=hp
   obtain ⟨n,rfl⟩:∃ k:Nat,n=((k:Nat):Int):=⟨n.toNat,by have h9:=(roE_zero (icE_zero hE).1).2.1.1; omega⟩
   rw [roadV_eq e2]
   refine ⟨⟨ext_road _ d q y P,⟨_,cI_plain C⟩,trivial⟩,fun ys hy=>?_⟩
   match ys,hy with
   | [y1,y2],_=>exact ⟨_,rfl,givesA_of (dDa n d q y P y2 C hE hk h1) rfl⟩
  ·cases h
 ·cases h)
def yD5S:List Xv→Option (Res1×List Prop):=fun vs =>
 match vs with
 | [.ext a,.lst k j e]=>match roadV a with
  | some (n,d,q,y,m,c)=>some (.val (.tup [.v (.int .i64 (0)),.v (.slice none 0 0),.v (.int .i64 5)]),[IsT m c,IsC j k e,icE n d q c m e k=0,k≤1000,0 < k,drV c q d e k n.toNat=n.toNat])
  | none=>none
 | _=>none
def yD5O:OrcH:=exoOrc 24 [0,1] yD5S
theorem known_yD5:Known pg (clsO yD5O):=known_exo (fun vs r ps h hp=>by
 unfold yD5S at h
 split at h
 ·split at h
  ·rename_i n d q y m c e2
   cases h
   obtain ⟨⟨P,rfl,rfl⟩,⟨rfl,C,rfl,rfl⟩,hE,hk,h1,h2,-⟩:=hp
   obtain ⟨n,rfl⟩:∃ k:Nat,n=((k:Nat):Int):=⟨n.toNat,by have h9:=(roE_zero (icE_zero hE).1).2.1.1; omega⟩
   rw [roadV_eq e2]
   refine ⟨⟨ext_road _ d q y P,⟨_,cI_plain C⟩,trivial⟩,fun ys hy=>?_⟩
   match ys,hy with
   | [y1,y2],_=>exact ⟨_,rfl,givesA_of (dD5 n d q y P y2 C hE hk h1 h2) rfl⟩
  ·cases h
 ·cases h)
def yDnS:List Xv→Option (Res1×List Prop):=fun vs =>
 match vs with
 | [.ext a,.lst k j e]=>match roadV a with
  | some (n,d,q,y,m,c)=>some (.val (.tup [.v (.int .i64 (((drV c q d e k n.toNat:Nat):Int))),.v (.slice none 0 0),.v (.int .i64 0)]),[IsT m c,IsC j k e,icE n d q c m e k=0,k≤1000,0 < k,drV c q d e k n.toNat < n.toNat,(drL c q d e k n.toNat).length=0])
  | none=>none
 | _=>none
def yDnO:OrcH:=exoOrc 24 [0,1] yDnS
theorem known_yDn:Known pg (clsO yDnO):=known_exo (fun vs r ps h hp=>by
 unfold yDnS at h
 split at h
 ·split at h
  ·rename_i n d q y m c e2
   cases h
   obtain ⟨⟨P,rfl,rfl⟩,⟨rfl,C,rfl,rfl⟩,hE,hk,h1,h2,h3,-⟩:=hp
   obtain ⟨n,rfl⟩:∃ k:Nat,n=((k:Nat):Int):=⟨n.toNat,by have h9:=(roE_zero (icE_zero hE).1).2.1.1; omega⟩
   rw [roadV_eq e2]
   refine ⟨⟨ext_road _ d q y P,⟨_,cI_plain C⟩,trivial⟩,fun ys hy=>?_⟩
   match ys,hy with
   | [y1,y2],_=>exact ⟨_,rfl,givesA_of (dDn n d q y P y2 C hE hk h1 h2 h3) rfl⟩
  ·cases h
 ·cases h)
def yDrS:List Xv→Option (Res1×List Prop):=fun vs =>
 match vs with
 | [.ext a,.lst k j e]=>match roadV a with
  | some (n,d,q,y,m,c)=>some (.blk (fun b=>.tup [.v (.int .i64 (((drV c q d e k n.toNat:Nat):Int))),.slu b 0 (drL c q d e k n.toNat).length 0,.v (.int .i64 0)]) (.row (cI (drL c q d e k n.toNat)) 3 1),[IsT m c,IsC j k e,icE n d q c m e k=0,k≤1000,0 < k,0 < (drL c q d e k n.toNat).length])
  | none=>none
 | _=>none
def yDrO:OrcH:=exoOrc 24 [0,1] yDrS
theorem known_yDr:Known pg (clsO yDrO):=known_exo (fun vs r ps h hp=>by
 unfold yDrS at h
 split at h
 ·split at h
  ·rename_i n d q y m c e2
   cases h
   obtain ⟨⟨P,rfl,rfl⟩,⟨rfl,C,rfl,rfl⟩,hE,hk,h1,h2,-⟩:=hp
   obtain ⟨n,rfl⟩:∃ k:Nat,n=((k:Nat):Int):=⟨n.toNat,by have h9:=(roE_zero (icE_zero hE).1).2.1.1; omega⟩
   rw [roadV_eq e2]
   refine ⟨⟨ext_road _ d q y P,⟨_,cI_plain C⟩,trivial⟩,fun ys hy=>?_⟩
   match ys,hy with
   | [y1,y2],_=>exact givesB_of (dDr n d q y P y2 C hE hk h1 h2) (one_slu3 _ _ _ (cI_plain _))
  ·cases h
 ·cases h)
def yCS:List Xv→Option (Res1×List Prop):=fun vs =>
 match vs with
 | [.ext a,.lst k j e]=>match roadV a with
  | some (n,d,q,y,m,c)=>some (.val (.tup [.v (.int .i64 (if hoB c q d e k n.toNat=true then suC c e k else 0)),.v (.int .i64 (if hoB c q d e k n.toNat=true then 0 else 18))]),[IsT m c,IsC j k e,icE n d q c m e k=0,k≤1000])
  | none=>none
 | _=>none
def yCO:OrcH:=exoOrc 17 [0,1] yCS
theorem known_yC:Known pg (clsO yCO):=known_exo (fun vs r ps h hp=>by
 unfold yCS at h
 split at h
 ·split at h
  ·rename_i n d q y m c e2
   cases h
   obtain ⟨⟨P,rfl,rfl⟩,⟨rfl,C,rfl,rfl⟩,hE,hk,-⟩:=hp
   obtain ⟨n,rfl⟩:∃ k:Nat,n=((k:Nat):Int):=⟨n.toNat,by have h9:=(roE_zero (icE_zero hE).1).2.1.1; omega⟩
   rw [roadV_eq e2]
   refine ⟨⟨ext_road _ d q y P,⟨_,cI_plain C⟩,trivial⟩,fun ys hy=>?_⟩
   match ys,hy with
   | [y1,y2],_=>exact ⟨_,rfl,givesA_of (oCg n d q y P y2 C hE hk) rfl⟩
  ·cases h
 ·cases h)
def yHS:List Xv→Option (Res1×List Prop):=fun vs =>
 match vs with
 | [.ext a,.lst k j e]=>match roadV a with
  | some (n,d,q,y,m,c)=>some (.val (.v (.bool (hoB c q d e k n.toNat))),[IsT m c,IsC j k e,icE n d q c m e k=0,k≤1000])
  | none=>none
 | _=>none
def yHO:OrcH:=exoOrc 26 [0,1] yHS
theorem known_yH:Known pg (clsO yHO):=known_exo (fun vs r ps h hp=>by
 unfold yHS at h
 split at h
 ·split at h
  ·rename_i n d q y m c e2
   cases h
   obtain ⟨⟨P,rfl,rfl⟩,⟨rfl,C,rfl,rfl⟩,hE,hk,-⟩:=hp
   obtain ⟨n,rfl⟩:∃ k:Nat,n=((k:Nat):Int):=⟨n.toNat,by have h9:=(roE_zero (icE_zero hE).1).2.1.1; omega⟩
   rw [roadV_eq e2]
   refine ⟨⟨ext_road _ d q y P,⟨_,cI_plain C⟩,trivial⟩,fun ys hy=>?_⟩
   match ys,hy with
   | [y1,y2],_=>exact ⟨_,rfl,givesA_of (rholds_g n d q y P y2 C hE hk) rfl⟩
  ·cases h
 ·cases h)
def yOS:List Xv→Option (Res1×List Prop):=fun vs =>
 match vs with
 | [.ext a,.lst k j e,.ext w,.lst g k0 f]=>match w with
  | .v u=>match roadV a,numV u with
   | some (n,d,q,y,m,c),some p=>some (.val (.v (.int .i64 (cdE n d q c m e k p f g))),[IsT m c,IsC j k e,IsC k0 g f,k≤1000,g≤1000])
   | _,_=>none
  | _=>none
 | _=>none
def yOO:OrcH:=exoOrc 22 [0,1,0,1] yOS
theorem known_yO:Known pg (clsO yOO):=known_exo (fun vs r ps h hp=>by
 unfold yOS at h
 split at h
 ·split at h
  ·split at h
   ·rename_i n d q y m c p e2 e3
    cases h
    obtain ⟨⟨P,rfl,rfl⟩,⟨rfl,C,rfl,rfl⟩,⟨rfl,D,rfl,rfl⟩,hk,hg,-⟩:=hp
    rw [roadV_eq e2,numV_eq e3]
    refine ⟨⟨ext_road n d q y P,⟨_,cI_plain C⟩,ext_v _,⟨_,cI_plain D⟩,trivial⟩,fun ys hy=>?_⟩
    match ys,hy with
    | [y1,y2,y3,y4],_=>exact ⟨_,rfl,ocd n d q y P y2 C p y4 D hk hg⟩
   ·cases h
  ·cases h
 ·cases h)
def yRS:List Xv→Option (Res1×List Prop):=fun vs =>
 match vs with
 | [.ext a,.lst k j e,.ext w,.lst g k0 f]=>match w with
  | .v u=>match roadV a,numV u with
   | some (n,d,q,y,m,c),some p=>some (.val (.v (.int .i64 (cdE n d q c m e k p f g))),[IsT m c,IsC j k e,IsC k0 g f,k≤1000,g≤1000])
   | _,_=>none
  | _=>none
 | _=>none
def yRO:OrcH:=exoOrc 23 [0,1,0,1] yRS
theorem known_yR:Known pg (clsO yRO):=known_exo (fun vs r ps h hp=>by
 unfold yRS at h
 split at h
 ·split at h
  ·split at h
   ·rename_i n d q y m c p e2 e3
    cases h
    obtain ⟨⟨P,rfl,rfl⟩,⟨rfl,C,rfl,rfl⟩,⟨rfl,D,rfl,rfl⟩,hk,hg,-⟩:=hp
    rw [roadV_eq e2,numV_eq e3]
    refine ⟨⟨ext_road n d q y P,⟨_,cI_plain C⟩,ext_v _,⟨_,cI_plain D⟩,trivial⟩,fun ys hy=>?_⟩
    match ys,hy with
    | [y1,y2,y3,y4],_=>exact ⟨_,rfl,rcd n d q y P y2 C p y4 D hk hg⟩
   ·cases h
  ·cases h
 ·cases h)
def u32V (v:Value):Option Int:=match v with | .int .u32 b=>some b | _=>none
theorem u32V_eq {v:Value} {b:Int} (h:u32V v=some b):v = .int .u32 b:=by
 unfold u32V at h
 split at h
 ·cases h; rfl
 ·cases h
def ycaS:List AV→List AB→Option ((AV×List AB)×List Prop):=fun args xs =>
 match args with
 | [a,.v u]=>match roadV a,u32V u,xs with
  | some (n,d,q,y,m,c),some b,[]=>some ((.v (.slice none 0 0),[]),[IsT m c,m≤24,0≤b∧b≤4294967295,(flt (mkB b) m).length=0])
  | _,_,_=>none
 | _=>none
def ycaO:OrcH:=mOrc 35 ycaS
theorem known_yca:Known pg (clsO ycaO):=known_m (fun args xs r ys ps h hp=>by
 unfold ycaS at h
 split at h
 ·split at h
  ·rename_i n d q y m c b e2 e3
   cases h
   obtain ⟨⟨P,rfl,rfl⟩,hm,hb,h0,-⟩:=hp
   rw [roadV_eq e2,u32V_eq e3]
   exact ⟨fun x hx=>absurd hx List.not_mem_nil,fun x hx=>absurd hx List.not_mem_nil,choose_a n d q y P b hm hb h0⟩
  ·cases h
 ·cases h)
def ycbS:List AV→List AB→Option ((AV×List AB)×List Prop):=fun args xs =>
 match args with
 | [a,.v u]=>match roadV a,u32V u,xs with
  | some (n,d,q,y,m,c),some b,[]=>some ((.slu 0 0 (flt (mkB b) m).length 0,[.row (cI (flt (mkB b) m)) 3 1]),[IsT m c,m≤24,0≤b∧b≤4294967295,0 < (flt (mkB b) m).length])
  | _,_,_=>none
 | _=>none
def ycbO:OrcH:=mOrc 35 ycbS
theorem known_ycb:Known pg (clsO ycbO):=known_m (fun args xs r ys ps h hp=>by
 unfold ycbS at h
 split at h
 ·split at h
  ·rename_i n d q y m c b e2 e3
   cases h
   obtain ⟨⟨P,rfl,rfl⟩,hm,hb,h0,-⟩:=hp
   rw [roadV_eq e2,u32V_eq e3]
   exact ⟨fun x hx=>absurd hx List.not_mem_nil,(fun x hx=>by rcases List.mem_cons.1 hx with rfl | hx; exact freeB_row (fP (cI_plain _)); exact absurd hx List.not_mem_nil),choose_b n d q y P b hm hb h0⟩
  ·cases h
 ·cases h)
def l5a:OrcH:=orO (orO (orO gtO rrO) (orO ycaO yDaO)) (orO (orO yCO yHO) (orO (orO yOO yRO) wkO))
theorem known_l5a (hw:Known pg (clsO wkO)):Known pg (clsO l5a):=known_or (known_or (known_or known_gt known_rr) (known_or known_yca known_yDa)) (known_or (known_or known_yC known_yH) (known_or (known_or known_yO known_yR) hw))
def l55:OrcH:=orO (orO (orO gtO rrO) (orO ycbO yD5O)) (orO (orO yCO yHO) (orO (orO yOO yRO) wkO))
theorem known_l55 (hw:Known pg (clsO wkO)):Known pg (clsO l55):=known_or (known_or (known_or known_gt known_rr) (known_or known_ycb known_yD5)) (known_or (known_or known_yC known_yH) (known_or (known_or known_yO known_yR) hw))
def l5n:OrcH:=orO (orO (orO gtO rrO) (orO ycbO yDnO)) (orO (orO yCO yHO) (orO (orO yOO yRO) wkO))
theorem known_l5n (hw:Known pg (clsO wkO)):Known pg (clsO l5n):=known_or (known_or (known_or known_gt known_rr) (known_or known_ycb known_yDn)) (known_or (known_or known_yC known_yH) (known_or (known_or known_yO known_yR) hw))
def l5r:OrcH:=orO (orO (orO gtO rrO) (orO ycbO yDrO)) (orO (orO yCO yHO) (orO (orO yOO yRO) wkO))
theorem known_l5r (hw:Known pg (clsO wkO)):Known pg (clsO l5r):=known_or (known_or (known_or known_gt known_rr) (known_or known_ycb known_yDr)) (known_or (known_or known_yC known_yH) (known_or (known_or known_yO known_yR) hw))
end
end Go.Proofs.Ytnphldmnakbknaa
