import Derived.Test.YtmankoikpadkpaaC3a
import Derived.Test.YtmankoikpadkpaaC3b
set_option linter.all false
/- Lists of cases compared. -/
namespace Go.Proofs.Ytmankoikpadkpaa
open Go Ev
noncomputable section
def codeV (a:AV):Option (Int×Int×Int×Int) :=
 match a with
 | .agg [.v (.int .i64 a),.v (.int .i64 b),.v (.int .i64 c),.v (.int .i64 d)]=>some (a,b,c,d)
 | _=>none
theorem codeV_eq {a:AV} {w0 w1 w2 w3:Int} (h:codeV a=some (w0,w1,w2,w3)):a = .agg [.v (.int .i64 w0),.v (.int .i64 w1),.v (.int .i64 w2),.v (.int .i64 w3)]:=by
 unfold codeV at h
 split at h
 ·cases h
  rfl
 ·cases h
def coSa:List AV→List AB→Option ((AV×List AB)×List Prop):=fun args xs =>
 match args with
 | [g,w]=>match pageV g,codeV w,xs with
  | some (n,y,m,c,p,p2),some (w0,w1,w2,w3),[.cells l t]=>some ((.v (.slice none 0 0),[.cells l t]),
    [p2=p∧t=61∧l=cI (tabL (pgF c m 0) (p * 4)),IsR m c,n=((p:Nat):Int)∧plE n c m=0,(gotL (seeM c m (padF [w0,w1,w2,w3])) (1 + 2 * p)).length=0])
  | _,_,_=>none
 | _=>none
def coOa:OrcH:=mOrc 46 coSa
theorem known_coa:Known Try.prog (clsO coOa):=known_m (fun args xs r ys ps h hp=>by
 unfold coSa at h
 split at h
 ·rename_i g w
  split at h
  ·rename_i n y m c p p2 w0 w1 w2 w3 l t h1 h2
   cases h
   obtain ⟨⟨rfl,rfl,rfl⟩,⟨R,rfl,rfl⟩,⟨rfl,hE⟩,h0,-⟩:=hp
   rw [pageV_eq h1,codeV_eq h2]
   refine ⟨fun x hx=>?_,fun x hx=>?_,casesOf_a p2 y R (padF [w0,w1,w2,w3]) hE h0⟩
   ·skip
    rcases List.mem_cons.1 hx with rfl | hx
    ·exact freeB_cells (freeL_plain (cI_plain _))
    ·exact absurd hx List.not_mem_nil
   ·skip
    rcases List.mem_cons.1 hx with rfl | hx
    ·exact freeB_cells (freeL_plain (cI_plain _))
    ·exact absurd hx List.not_mem_nil
  ·cases h
 ·cases h)
def coSb:List AV→List AB→Option ((AV×List AB)×List Prop):=fun args xs =>
 match args with
 | [g,w]=>match pageV g,codeV w,xs with
  | some (n,y,m,c,p,p2),some (w0,w1,w2,w3),[.cells l t]=>some ((.slu 1 0 (gotL (seeM c m (padF [w0,w1,w2,w3])) (1 + 2 * p)).length 0,[.cells l t,.row (cR (gotL (seeM c m (padF [w0,w1,w2,w3])) (1 + 2 * p))) 26 2]),
    [p2=p∧t=61∧l=cI (tabL (pgF c m 0) (p * 4)),IsR m c,n=((p:Nat):Int)∧plE n c m=0,0 < (gotL (seeM c m (padF [w0,w1,w2,w3])) (1 + 2 * p)).length])
  | _,_,_=>none
 | _=>none
def coOb:OrcH:=mOrc 46 coSb
theorem known_cob:Known Try.prog (clsO coOb):=known_m (fun args xs r ys ps h hp=>by
 unfold coSb at h
 split at h
 ·rename_i g w
  split at h
  ·rename_i n y m c p p2 w0 w1 w2 w3 l t h1 h2
   cases h
   obtain ⟨⟨rfl,rfl,rfl⟩,⟨R,rfl,rfl⟩,⟨rfl,hE⟩,h0,-⟩:=hp
   rw [pageV_eq h1,codeV_eq h2]
   refine ⟨fun x hx=>?_,fun x hx=>?_,casesOf_b p2 y R (padF [w0,w1,w2,w3]) hE h0⟩
   ·skip
    rcases List.mem_cons.1 hx with rfl | hx
    ·exact freeB_cells (freeL_plain (cI_plain _))
    ·exact absurd hx List.not_mem_nil
   ·skip
    rcases List.mem_cons.1 hx with rfl | hx
    ·exact freeB_cells (freeL_plain (cI_plain _))
    ·rcases List.mem_cons.1 hx with rfl | hx
     ·exact freeB_row (freeL_plain (cR_plain _))
     ·exact absurd hx List.not_mem_nil
  ·cases h
 ·cases h)
def csE (n:Int) (c:List AV) (m:Nat) (d:List AV) (j:Nat):Int:=if plE n c m=0 then (if j=m then (if okS d j=true then 0 else 3) else 15) else plE n c m
theorem csE_zero {n:Int} {c d:List AV} {m j:Nat} (h:csE n c m d j=0):plE n c m=0∧j=m∧okS d j=true:=by
 unfold csE at h
 split at h
 ·rename_i h1
  split at h
  ·rename_i h2
   split at h
   ·rename_i h3
    exact ⟨h1,h2,h3⟩
   ·omega
  ·omega
 ·rename_i h1
  exact absurd h h1
def alS:List AV→List AB→Option ((AV×List AB)×List Prop):=fun args xs =>
 match args with
 | [g]=>match planV g,xs with
  | some (n,y,m,c),[]=>some ((.slu 0 0 (1 + 2 * n.toNat) 0,[.row (cR (casL (1 + 2 * n.toNat))) 26 2]),[IsR m c,plE n c m=0])
  | _,_=>none
 | _=>none
def alO:OrcH:=mOrc 47 alS
theorem known_al:Known Try.prog (clsO alO):=known_m (fun args xs r ys ps h hp=>by
 unfold alS at h
 split at h
 ·rename_i g
  split at h
  ·rename_i n y m c h1
   cases h
   obtain ⟨⟨R,rfl,rfl⟩,hE,-⟩:=hp
   rw [planV_eq h1]
   obtain ⟨hm,hn,-⟩:=plE_zero hE
   obtain ⟨p,rfl⟩:∃ p:Nat,n=((p + 1:Nat):Int):=⟨(n - 1).toNat,by omega⟩
   refine ⟨fun x hx=>absurd hx List.not_mem_nil,fun x hx=>?_,all_g p y R (by omega)⟩
   rcases List.mem_cons.1 hx with rfl | hx
   ·exact freeB_row (freeL_plain (cR_plain _))
   ·exact absurd hx List.not_mem_nil
  ·cases h
 ·cases h)
def ocOa:OrcH:=orO (orO plO asO) (orO npO coOa)
def ocOb:OrcH:=orO (orO plO asO) (orO npO coOb)
theorem known_oca:Known Try.prog (clsO ocOa):=known_or (known_or known_pl known_as) (known_or known_np known_coa)
theorem known_ocb:Known Try.prog (clsO ocOb):=known_or (known_or known_pl known_as) (known_or known_np known_cob)
end
end Go.Proofs.Ytmankoikpadkpaa
