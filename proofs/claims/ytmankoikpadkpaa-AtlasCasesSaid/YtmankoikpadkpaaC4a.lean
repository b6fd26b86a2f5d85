import Derived.Test.YtmankoikpadkpaaC3b
import Derived.Test.YtmankoikpadkpaaC3c
import Derived.Test.YtmankoikpadkpaaC3d
import Derived.Test.YtmankoikpadkpaaC3e
set_option linter.all false
/- What is known of what Cases calls. -/
namespace Go.Proofs.Ytmankoikpadkpaa
open Go Ev
noncomputable section
def codeV (a:AV):Option (Int×Int×Int×Int) :=
 match a with
 | .agg [.v (.int .i64 a),.v (.int .i64 b),.v (.int .i64 c),.v (.int .i64 d)]=>some (a,b,c,d)
 | _=>none
theorem codeV_eq {a:AV} {w0 w1 w2 w3:Int} (h:codeV a=some (w0,w1,w2,w3)):a = .agg [.v (.int .i64 w0),.v (.int .i64 w1),.v (.int .i64 w2),.v (.int .i64 w3)]:=by
 unfold codeV at h
 split at h
 ·cases h
  rfl
 ·cases h
def coSa:List AV→List AB→Option ((AV×List AB)×List Prop):=fun args xs =>
 match args with
 | [g,w]=>match pageV g,codeV w,xs with
  | some (n,y,m,c,p,p2),some (w0,w1,w2,w3),[.cells l t]=>some ((.v (.slice none 0 0),[.cells l t]),
    [p2=p∧t=61∧l=cI (tabL (pgF c m 0) (p * 4)),IsR m c,n=((p:Nat):Int)∧plE n c m=0,(gotL (seeM c m (padF [w0,w1,w2,w3])) (1 + 2 * p)).length=0])
  | _,_,_=>none
 | _=>none
def coOa:OrcH:=mOrc 46 coSa
theorem known_coa:Known Try.prog (clsO coOa):=known_m (fun args xs r ys ps h hp=>by
 unfold coSa at h
 split at h
 ·rename_i g w
  split at h
  ·rename_i n y m c p p2 w0 w1 w2 w3 l t h1 h2
   cases h
   obtain ⟨⟨rfl,rfl,rfl⟩,⟨R,rfl,rfl⟩,⟨rfl,hE⟩,h0,-⟩:=hp
   rw [pageV_eq h1,codeV_eq h2]
   refine ⟨fun x hx=>?_,fun x hx=>?_,casesOf_a p2 y R (padF [w0,w1,w2,w3]) hE h0⟩
   ·skip
    rcases List.mem_cons.1 hx with rfl | hx
    ·exact freeB_cells (freeL_plain (cI_plain _))
    ·exact absurd hx List.not_mem_nil
   ·skip
    rcases List.mem_cons.1 hx with rfl | hx
    ·exact freeB_cells (freeL_plain (cI_plain _))
    ·exact absurd hx List.not_mem_nil
  ·cases h
 ·cases h)
def coSb:List AV→List AB→Option ((AV×List AB)×List Prop):=fun args xs =>
 match args with
 | [g,w]=>match pageV g,codeV w,xs with
  | some (n,y,m,c,p,p2),some (w0,w1,w2,w3),[.cells l t]=>some ((.slu 1 0 (gotL (seeM c m (padF [w0,w1,w2,w3])) (1 + 2 * p)).length 0,[.cells l t,.row (cR (gotL (seeM c m (padF [w0,w1,w2,w3])) (1 + 2 * p))) 26 2]),
    [p2=p∧t=61∧l=cI (tabL (pgF c m 0) (p * 4)),IsR m c,n=((p:Nat):Int)∧plE n c m=0,0 < (gotL (seeM c m (padF [w0,w1,w2,w3])) (1 + 2 * p)).length])
  | _,_,_=>none
 | _=>none
def coOb:OrcH:=mOrc 46 coSb
theorem known_cob:Known Try.prog (clsO coOb):=known_m (fun args xs r ys ps h hp=>by
 unfold coSb at h
 split at h
 ·rename_i g w
  split at h
  ·rename_i n y m c p p2 w0 w1 w2 w3 l t h1 h2
   cases h
   obtain ⟨⟨rfl,rfl,rfl⟩,⟨R,rfl,rfl⟩,⟨rfl,hE⟩,h0,-⟩:=hp
   rw [pageV_eq h1,codeV_eq h2]
   refine ⟨fun x hx=>?_,fun x hx=>?_,casesOf_b p2 y R (padF [w0,w1,w2,w3]) hE h0⟩
   ·skip
    rcases List.mem_cons.1 hx with rfl | hx
    ·exact freeB_cells (freeL_plain (cI_plain _))
    ·exact absurd hx List.not_mem_nil
   ·skip
    rcases List.mem_cons.1 hx with rfl | hx
    ·exact freeB_cells (freeL_plain (cI_plain _))
    ·rcases List.mem_cons.1 hx with rfl | hx
     ·exact freeB_row (freeL_plain (cR_plain _))
     ·exact absurd hx List.not_mem_nil
  ·cases h
 ·cases h)
def csE (n:Int) (c:List AV) (m:Nat) (d:List AV) (j:Nat):Int:=if plE n c m=0 then (if j=m then (if okS d j=true then 0 else 3) else 15) else plE n c m
theorem csE_pl {n:Int} {c d:List AV} {m j:Nat} (h:¬ plE n c m=0):csE n c m d j=plE n c m:=if_neg h
theorem csE_len {n:Int} {c d:List AV} {m j:Nat} (h:plE n c m=0) (h2:¬ j=m):csE n c m d j=15:=by unfold csE; rw [if_pos h,if_neg h2]
theorem csE_see {n:Int} {c d:List AV} {m j:Nat} (h:plE n c m=0) (h2:j=m) (h3:okS d j=false):csE n c m d j=3:=by unfold csE; rw [if_pos h,if_pos h2,h3]; rfl
theorem csE_zero {n:Int} {c d:List AV} {m j:Nat} (h:csE n c m d j=0):plE n c m=0∧j=m∧okS d j=true:=by
 unfold csE at h
 split at h
 ·rename_i h1
  split at h
  ·rename_i h2
   split at h
   ·rename_i h3
    exact ⟨h1,h2,h3⟩
   ·omega
  ·omega
 ·rename_i h1
  exact absurd h h1
def alS:List AV→List AB→Option ((AV×List AB)×List Prop):=fun args xs =>
 match args with
 | [g]=>match planV g,xs with
  | some (n,y,m,c),[]=>some ((.slu 0 0 (1 + 2 * n.toNat) 0,[.row (cR (casL (1 + 2 * n.toNat))) 26 2]),[IsR m c,plE n c m=0])
  | _,_=>none
 | _=>none
def alO:OrcH:=mOrc 47 alS
theorem known_al:Known Try.prog (clsO alO):=known_m (fun args xs r ys ps h hp=>by
 unfold alS at h
 split at h
 ·rename_i g
  split at h
  ·rename_i n y m c h1
   cases h
   obtain ⟨⟨R,rfl,rfl⟩,hE,-⟩:=hp
   rw [planV_eq h1]
   obtain ⟨hm,hn,-⟩:=plE_zero hE
   obtain ⟨p,rfl⟩:∃ p:Nat,n=((p + 1:Nat):Int):=⟨(n - 1).toNat,by omega⟩
   refine ⟨fun x hx=>absurd hx List.not_mem_nil,fun x hx=>?_,all_g p y R (by omega)⟩
   rcases List.mem_cons.1 hx with rfl | hx
   ·exact freeB_row (freeL_plain (cR_plain _))
   ·exact absurd hx List.not_mem_nil
  ·cases h
 ·cases h)
def seS0:List AV→List AB→Option ((AV×List AB)×List Prop):=fun args xs =>
 match args with
 | [g,q]=>match planV g,numC q,xs with
  | some (n,y,m,c),some (a,b),[]=>some ((.v (.slice none 0 0),[]),[m=0∧IsR m c,plE n c m=0,caB n a b=true])
  | _,_,_=>none
 | _=>none
def seO0:OrcH:=mOrc 42 seS0
theorem known_se0:Known Try.prog (clsO seO0):=known_m (fun args xs r ys ps h hp=>by
 unfold seS0 at h
 split at h
 ·rename_i g q
  split at h
  ·rename_i n y m c a b h1 h2
   cases h
   obtain ⟨⟨rfl,R,rfl,hR⟩,hE,hc,-⟩:=hp
   rw [planV_eq h1,numC_eq h2]
   exact ⟨fun x hx=>absurd hx List.not_mem_nil,fun x hx=>absurd hx List.not_mem_nil,seen_0 y R n a b hR hE hc⟩
  ·cases h
 ·cases h)
def seS1:List AV→List AB→Option ((AV×List AB)×List Prop):=fun args xs =>
 match args with
 | [g,q]=>match planV g,numC q,xs with
  | some (n,y,m,c),some (a,b),[]=>some ((.slu 0 0 m 0,[.row (cI (tabL (rv c a b) m)) 3 1]),[0 < m∧IsR m c,plE n c m=0,caB n a b=true])
  | _,_,_=>none
 | _=>none
def seO1:OrcH:=mOrc 42 seS1
theorem known_se1:Known Try.prog (clsO seO1):=known_m (fun args xs r ys ps h hp=>by
 unfold seS1 at h
 split at h
 ·rename_i g q
  split at h
  ·rename_i n y m c a b h1 h2
   cases h
   obtain ⟨⟨hm,R,rfl,hR⟩,hE,hc,-⟩:=hp
   rw [planV_eq h1,numC_eq h2]
   obtain ⟨k,rfl⟩:∃ k,m=k + 1:=⟨m - 1,by omega⟩
   refine ⟨fun x hx=>absurd hx List.not_mem_nil,fun x hx=>?_,seen_1 y R k n a b hR hE hc⟩
   rcases List.mem_cons.1 hx with rfl | hx
   ·exact freeB_row (freeL_plain (cI_plain _))
   ·exact absurd hx List.not_mem_nil
  ·cases h
 ·cases h)
def smS:List AV→List AB→Option ((AV×List AB)×List Prop):=fun args xs =>
 match args with
 | [.slu 0 0 n 0,.xl z j k d]=>match xs with
  | [.row c t 1]=>some ((.v (.bool (smB c d)),[.row c t 1]),[t=3∧IsI 1 n c,IsI k j d,n≤1000])
  | _=>none
 | _=>none
def smO:OrcH:=mOrc 20 smS
theorem known_sm:Known Try.prog (clsO smO):=known_m (fun args xs r ys ps h hp=>by
 unfold smS at h
 split at h
 ·split at h
  ·cases h
   obtain ⟨⟨rfl,-,X,rfl,rfl⟩,⟨rfl,L,rfl,rfl⟩,hn,-⟩:=hp
   have hf:∀ x,x∈[AB.row (cI X) 3 1]→FreeB x:=fun x hx=>by
    rcases List.mem_cons.1 hx with rfl | hx
    ·exact freeB_row (freeL_plain (cI_plain _))
    ·exact absurd hx List.not_mem_nil
   exact ⟨hf,hf,same_g _ X L hn⟩
  ·cases h
 ·cases h)
def ocOa:OrcH:=orO (orO plO asO) (orO npO coOa)
def ocOb:OrcH:=orO (orO plO asO) (orO npO coOb)
theorem known_oca:Known Try.prog (clsO ocOa):=known_or (known_or known_pl known_as) (known_or known_np known_coa)
theorem known_ocb:Known Try.prog (clsO ocOb):=known_or (known_or known_pl known_as) (known_or known_np known_cob)
def rcO0:OrcH:=orO (orO rplO alO) seO0
def rcO1:OrcH:=orO (orO rplO alO) (orO seO1 smO)
theorem known_rc0:Known Try.prog (clsO rcO0):=known_or (known_or known_rpl known_al) known_se0
theorem known_rc1:Known Try.prog (clsO rcO1):=known_or (known_or known_rpl known_al) (known_or known_se1 known_sm)
end
end Go.Proofs.Ytmankoikpadkpaa
