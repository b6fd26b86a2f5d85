import Derived.Test.YtldekgkjofgacaaZ28
import Derived.Test.YtldekgkjofgacaaZ17
set_option maxHeartbeats 4000000
set_option linter.all false
/- The oracle of flux where bounds tell the lights. -/
namespace Go.Proofs.Ytldekgkjofgacaa
open Go Ev
noncomputable section
theorem hcZ30 (A:List Int) (B:List Bool) (L:List (Int×Int)) (W:List Int):(cI A).length=A.length∧(cR L).length=L.length * 2∧(cB B).length=B.length∧(cI W).length=W.length:=⟨cI_len A,cR_len L,cB_len B,cI_len W⟩
section
variable (A : List Int) (B : List Bool) (L : List (Int × Int)) (W : List Int) (p q : Int) (ya yf yl yw : Value)
@[reducible] def q30_23:List Ev.AV:=[(.xl (ya) (A.length) 1 (cI A)),(.xl (yl) (L.length) 2 (cR L)),(.xl (yf) (B.length) 1 (cB B)),(.xl (yw) (W.length) 1 (cI W))]
@[reducible] def q30_20:Nat×Ev.AB:=(0,(.cells (q30_23 A B L W ya yf yl yw) 26))
@[reducible] def q30_28:Ev.AB:=(.cells [(.v (.int .i64 (.ofNat 0))),(.v (.int .i64 (.ofNat 0)))] 40)
@[reducible] def q30_26:Nat×Ev.AB:=(2,q30_28)
@[reducible] def q30_14:Ev.AB:=(.cells (bdT (q30_23 A B L W ya yf yl yw) ((rdB (cI A) A.length (cR L) (cB B) W.length W.length).fst) ((rdB (cI A) A.length (cR L) (cB B) W.length W.length).snd)) 95)
@[reducible] def q30_1:Ev.Lit:=⟨[(2,(.ptr 0 0)),(3,(.ptr 1 0)),(4,(.ptr 2 0)),(7,(.ptr 7 0)),(8,(.v (.int .i64 (.ofNat 0))))],[],8,[(q30_20 A B L W ya yf yl yw),(1,(.cells [(.v (.int .i64 (p))),(.v (.int .i64 (q)))] 40)),q30_26,(7,(q30_14 A B L W ya yf yl yw))]⟩
@[reducible] def q30_25:List Ev.AV:=[.xl ya A.length 1 (cI A),.xl yl L.length 2 (cR L),.xl yf B.length 1 (cB B),.xl yw W.length 1 (cI W)]
@[reducible] def q30_17:=(bdT (q30_25 A B L W ya yf yl yw) (rdB (cI A) A.length (cR L) (cB B) W.length W.length).1 (rdB (cI A) A.length (cR L) (cB B) W.length W.length).2)
@[reducible] def q30_15:Ev.AB:=(.cells (q30_17 A B L W ya yf yl yw) 95)
@[reducible] def q30_2:Ev.Lit:=⟨[(2,(.ptr 6 0)),(3,(.v (.int .i64 (.ofNat 0))))],[],7,[(q30_20 A B L W ya yf yl yw),(1,(.cells [(.v (.int .i64 (p))),(.v (.int .i64 (q)))] 40)),q30_26,(6,(q30_15 A B L W ya yf yl yw))]⟩
@[reducible] def q30_19:=(bdT [(.v (Value.slice none 0 0)),(.v (Value.slice none 0 0)),(.v (Value.slice none 0 0)),(.v (Value.slice none 0 0))] (fun _=>(0:Int)) (fun _=>(0:Int)))
@[reducible] def q30_18:Ev.AB:=(.cells q30_19 95)
@[reducible] def q30_3:Ev.Lit:=⟨[(2,(.ptr 0 0)),(3,(.ptr 1 0)),(4,(.ptr 2 0)),(7,(.ptr 7 0)),(8,(.v (.int .i64 (.ofNat 21))))],[],8,[(q30_20 A B L W ya yf yl yw),(1,(.cells [(.v (.int .i64 (p))),(.v (.int .i64 (q)))] 40)),q30_26,(7,q30_18)]⟩
@[reducible] def q30_5:Ev.Lit:=⟨[(2,(.ptr 6 0)),(3,(.v (.int .i64 (.ofNat 21))))],[],7,[(q30_20 A B L W ya yf yl yw),(1,(.cells [(.v (.int .i64 (p))),(.v (.int .i64 (q)))] 40)),q30_26,(6,q30_18)]⟩
@[reducible] def q30_22:Ev.AV:=(.agg (q30_23 A B L W ya yf yl yw))
@[reducible] def q30_6:Ev.Lit:=⟨[(2,(.ptr 0 0)),(3,(.ptr 1 0)),(4,(.ptr 2 0)),(21,(q30_22 A B L W ya yf yl yw))],[],5,[(q30_20 A B L W ya yf yl yw),(1,(.cells [(.v (.int .i64 (p))),(.v (.int .i64 (q)))] 40)),q30_26]⟩
@[reducible] def q30_21:Nat×Ev.AV:=(0,(q30_22 A B L W ya yf yl yw))
@[reducible] def q30_8:Ev.Lit:=⟨[(q30_21 A B L W ya yf yl yw)],[],5,[(q30_20 A B L W ya yf yl yw),(1,(.cells [(.v (.int .i64 (p))),(.v (.int .i64 (q)))] 40)),q30_26]⟩
@[reducible] def q30_27:Nat×Ev.AB:=(1,q30_28)
@[reducible] def q30_9:Ev.Lit:=⟨[(2,(.ptr 1 0)),(5,(.ptr 4 0)),(6,(.v (.int .i64 (.ofNat 0))))],[],5,[q30_27,(4,(q30_14 A B L W ya yf yl yw))]⟩
@[reducible] def q30_10:Ev.Lit:=⟨[(2,(.ptr 3 0)),(3,(.v (.int .i64 (.ofNat 0))))],[],4,[q30_27,(3,(q30_15 A B L W ya yf yl yw))]⟩
@[reducible] def q30_11:Ev.Lit:=⟨[(2,(.ptr 0 0)),(3,(.ptr 1 0)),(4,(.ptr 2 0))],[],3,[(q30_20 A B L W ya yf yl yw),(1,(.cells [(.v (.int .i64 (p))),(.v (.int .i64 (q)))] 40)),q30_26]⟩
@[reducible] def q30_12:Ev.Lit:=⟨[(2,(.ptr 0 0)),(3,(.ptr 1 0)),(4,(.ptr 2 0))],[],5,[(q30_20 A B L W ya yf yl yw),(1,(.cells [(.v (.int .i64 (p))),(.v (.int .i64 (q)))] 40)),q30_26]⟩
@[reducible] def q30_13:Ev.Lit:=⟨[(1,(.ptr 0 0)),(2,(.ptr 1 0))],[],2,[(q30_20 A B L W ya yf yl yw),q30_27]⟩
@[reducible] def q30_16:Ev.Lit:=⟨[(q30_21 A B L W ya yf yl yw)],[],2,[q30_27]⟩
@[reducible] def q30_24:List Ev.AV:=[AV.xl ya A.length 1 (cI A),AV.xl yl L.length 2 (cR L),AV.xl yf B.length 1 (cB B),AV.xl yw W.length 1 (cI W)]
@[reducible] def q30_29:=(eqI (clE (cI A) A.length (cR L) L.length B.length (cI W) W.length) 0)
end
def isP (i:Nat):AV→Bool
 | .ptr b o=>match Nat.beq b i with
  | true=>Nat.beq o 0
  | false=>false
 | _=>false
theorem isP_ok {i:Nat} {v:AV} (h:isP i v=true):v = .ptr i 0:=by
 unfold isP at h
 split at h
 ·split at h
  ·rename_i h1
   rw [Nat.eq_of_beq_eq_true h1,Nat.eq_of_beq_eq_true h]
  ·cases h
 ·cases h
def IsBdK (l:List AV) (c:List AV):Prop:=∃ lo hi,c=bdC l lo hi∧(∀ k,k < 91→0≤lo k∧lo k≤200)∧(∀ k,k < 91→0≤hi k∧hi k≤200)
def IsShare (p q:Int):Prop:=(0≤p∧p≤1000)∧(0≤q∧q≤1000)
def flS:List AV→List AB→Option (Value×List Prop):=fun args xs =>
 match args with
 | [.agg [.xl ya na k1 ca,.xl yl nl k2 cl,.xl yf nf k3 cf,.xl yw nw k4 cw],.fn (.func f) l m]=>match xs with
  | [.cells c t]=>match l,m with
   | [a],[]=>match isP 0 a with
    | true=>match Nat.beq f 66 with
     | true=>some (.int .i64 (sumG cw (loF c) nw),[IsT95 t,IsLampK k1 k2 k3 k4 ca na cl nl cf nf cw nw,clE ca na cl nl nf cw nw=0,IsBdK [.xl ya na k1 ca,.xl yl nl k2 cl,.xl yf nf k3 cf,.xl yw nw k4 cw] c])
     | false=>match Nat.beq f 68 with
      | true=>some (.int .i64 (sumG cw (hiF c) nw),[IsT95 t,IsLampK k1 k2 k3 k4 ca na cl nl cf nf cw nw,clE ca na cl nl nf cw nw=0,IsBdK [.xl ya na k1 ca,.xl yl nl k2 cl,.xl yf nf k3 cf,.xl yw nw k4 cw] c])
      | false=>none
    | false=>none
   | _,_=>none
  | [.cells c t,.cells d u]=>match l,m,d with
   | [],[a,b],[.v p',.v q']=>match isP 0 a,isP 1 b,numV p',numV q' with
    | true,true,some p,some q=>match Nat.beq f 65 with
     | true=>some (.int .i64 (sumG cw (fun k=>(loF c k * p).tdiv 1000) nw),[IsT95 t,u=40,IsLampK k1 k2 k3 k4 ca na cl nl cf nf cw nw,clE ca na cl nl nf cw nw=0,IsBdK [.xl ya na k1 ca,.xl yl nl k2 cl,.xl yf nf k3 cf,.xl yw nw k4 cw] c,IsShare p q])
     | false=>match Nat.beq f 67 with
      | true=>some (.int .i64 (sumG cw (fun k=>(hiF c k * q).tdiv 1000) nw),[IsT95 t,u=40,IsLampK k1 k2 k3 k4 ca na cl nl cf nf cw nw,clE ca na cl nl nf cw nw=0,IsBdK [.xl ya na k1 ca,.xl yl nl k2 cl,.xl yf nf k3 cf,.xl yw nw k4 cw] c,IsShare p q])
      | false=>none
    | _,_,_,_=>none
   | _,_,_=>none
  | _=>none
 | _=>none
theorem nw_le {A W:List Int} {L:List (Int×Int)} {B:List Bool} (hz:clE (cI A) A.length (cR L) L.length B.length (cI W) W.length=0):W.length≤91:=by
 obtain ⟨hn,ha,he,hl,hw⟩:=clE_zero hz
 exact (deg_bd hn ha he 0 (by omega)).2.2.1
theorem loF_bd {l:List AV} (hl:l.length=4) {lo hi:Nat→Int} {k:Nat} (h:k < 91):loF (bdC l lo hi) k=lo k:=bd_intLo hl rfl h
theorem hiF_bd {l:List AV} (hl:l.length=4) {lo hi:Nat→Int} {k:Nat} (h:k < 91):hiF (bdC l lo hi) k=hi k:=bd_intHi hl rfl h
def flO:OrcH:=rOrc 46 flS
theorem known_fl:Known Try.prog (clsO flO):=known_r (fun args xs r ps h hp=>by
 unfold flS at h
 split at h
 ·rename_i ya na k1 ca yl nl k2 cl yf nf k3 cf yw nw k4 cw f l m
  split at h
  ·rename_i c t
   split at h
   ·rename_i a
    split at h
    ·rename_i ha
     obtain rfl:=isP_ok ha
     split at h
     ·rename_i hf
      obtain rfl:=Nat.eq_of_beq_eq_true hf
      cases h
      obtain ⟨ht,⟨rfl,rfl,rfl,rfl,A,L,B,W,rfl,rfl,rfl,rfl,rfl,rfl,rfl,rfl⟩,hz,⟨lo,hi,rfl,hlo,hhi⟩,-⟩:=hp
      cases ht
      have hg:=fl_g ya yl yf yw A L B W lo hi hz hlo hhi
      rw [bdT_eq] at hg
      refine ⟨fun x hx=>by rw [List.mem_singleton] at hx; subst hx; exact ⟨free_bd free_lamp,detB_cells⟩,?_⟩
      rw [sumG_ext (f:=loF _) (g:=lo) _ (fun k hk=>loF_bd rfl (by have:=nw_le hz; omega))]
      exact hg
     ·split at h
      ·rename_i hf
       obtain rfl:=Nat.eq_of_beq_eq_true hf
       cases h
       obtain ⟨ht,⟨rfl,rfl,rfl,rfl,A,L,B,W,rfl,rfl,rfl,rfl,rfl,rfl,rfl,rfl⟩,hz,⟨lo,hi,rfl,hlo,hhi⟩,-⟩:=hp
       cases ht
       have hg:=fh_g ya yl yf yw A L B W lo hi hz hlo hhi
       rw [bdT_eq] at hg
       refine ⟨fun x hx=>by rw [List.mem_singleton] at hx; subst hx; exact ⟨free_bd free_lamp,detB_cells⟩,?_⟩
       rw [sumG_ext (f:=hiF _) (g:=hi) _ (fun k hk=>hiF_bd rfl (by have:=nw_le hz; omega))]
       exact hg
      ·cases h
    ·cases h
   ·cases h
  ·rename_i c t d u
   split at h
   ·rename_i a b p' q'
    split at h
    ·rename_i p q ha hb hp' hq'
     obtain rfl:=isP_ok ha
     obtain rfl:=isP_ok hb
     obtain rfl:=numV_eq hp'
     obtain rfl:=numV_eq hq'
     split at h
     ·rename_i hf
      obtain rfl:=Nat.eq_of_beq_eq_true hf
      cases h
      obtain ⟨ht,rfl,⟨rfl,rfl,rfl,rfl,A,L,B,W,rfl,rfl,rfl,rfl,rfl,rfl,rfl,rfl⟩,hz,⟨lo,hi,rfl,hlo,hhi⟩,⟨h1,h2⟩,-⟩:=hp
      cases ht
      have hg:=gl_g ya yl yf yw A L B W lo hi p q hz hlo hhi h1 h2
      rw [bdT_eq] at hg
      refine ⟨fun x hx=>?_,?_⟩
      ·rcases List.mem_cons.1 hx with rfl | hx
       ·exact ⟨free_bd free_lamp,detB_cells⟩
       ·rw [List.mem_singleton] at hx; subst hx; exact ⟨freeB_cells (freeL_cons freeL_v (freeL_cons freeL_v freeL_nil)),detB_cells⟩
      ·rw [sumG_ext (f:=fun k=>(loF _ k * p).tdiv 1000) (g:=fun k=>(lo k * p).tdiv 1000) _ (fun k hk=>by show (loF (bdC _ _ _) k * p).tdiv 1000=_; rw [loF_bd rfl (by have:=nw_le hz; omega)])]
       exact hg
     ·split at h
      ·rename_i hf
       obtain rfl:=Nat.eq_of_beq_eq_true hf
       cases h
       obtain ⟨ht,rfl,⟨rfl,rfl,rfl,rfl,A,L,B,W,rfl,rfl,rfl,rfl,rfl,rfl,rfl,rfl⟩,hz,⟨lo,hi,rfl,hlo,hhi⟩,⟨h1,h2⟩,-⟩:=hp
       cases ht
       have hg:=gh_g ya yl yf yw A L B W lo hi p q hz hlo hhi h1 h2
       rw [bdT_eq] at hg
       refine ⟨fun x hx=>?_,?_⟩
       ·rcases List.mem_cons.1 hx with rfl | hx
        ·exact ⟨free_bd free_lamp,detB_cells⟩
        ·rw [List.mem_singleton] at hx; subst hx; exact ⟨freeB_cells (freeL_cons freeL_v (freeL_cons freeL_v freeL_nil)),detB_cells⟩
       ·rw [sumG_ext (f:=fun k=>(hiF _ k * q).tdiv 1000) (g:=fun k=>(hi k * q).tdiv 1000) _ (fun k hk=>by show (hiF (bdC _ _ _) k * q).tdiv 1000=_; rw [hiF_bd rfl (by have:=nw_le hz; omega)])]
        exact hg
      ·cases h
    ·cases h
   ·cases h
  ·cases h
 ·cases h)
def bnO:OrcH:=orO odbO (orO opO (orO seO flO))
theorem known_bn:Known Try.prog (clsO bnO):=known_or known_odb (known_or known_op (known_or known_se known_fl))
section
variable (A : List AV) (n : Nat) (L : List AV) (nl : Nat) (B : List AV) (nf : Nat) (W : List AV) (nw : Nat)
open Classical in
def spE (e:Int):Int:=if clE A n L nl nf W nw=0 then (if e=0 then (if fdAll B L n=none then 0 else 21) else e) else clE A n L nl nf W nw
open Classical in
def spV (e x:Int):Int:=if clE A n L nl nf W nw=0∧e=0∧fdAll B L n=none then x else 0
variable {A n L nl B nf W nw}
section
variable (A : List Int) (B : List Bool) (L : List (Int × Int)) (W : List Int) (w : World)
@[reducible] def q30_7:=(OutR Try.prog Try.f27 23 (.tuple #[.agg #[.int .i64 (spV (cI A) A.length (cR L) L.length (cB B) B.length (cI W) W.length 0 (sumG (cI W) (rdB (cI A) A.length (cR L) (cB B) W.length W.length).1 W.length)),.int .i64 (spV (cI A) A.length (cR L) L.length (cB B) B.length (cI W) W.length 0 (sumG (cI W) (rdB (cI A) A.length (cR L) (cB B) W.length W.length).2 W.length))],.int .i64 (spE (cI A) A.length (cR L) L.length (cB B) B.length (cI W) W.length 0)]) w)
end
theorem spE_lamp {e:Int} (h:¬ clE A n L nl nf W nw=0):spE A n L nl B nf W nw e=clE A n L nl nf W nw:=if_neg h
theorem spV_lamp {e x:Int} (h:¬ clE A n L nl nf W nw=0):spV A n L nl B nf W nw e x=0:=if_neg (fun q=>h q.1)
theorem spE_arg {e:Int} (h:clE A n L nl nf W nw=0) (he:¬ e=0):spE A n L nl B nf W nw e=e:=by unfold spE; rw [if_pos h,if_neg he]
theorem spV_arg {e x:Int} (he:¬ e=0):spV A n L nl B nf W nw e x=0:=if_neg (fun q=>he q.2.1)
theorem spE_doubt (h:clE A n L nl nf W nw=0) (hf:¬ fdAll B L n=none):spE A n L nl B nf W nw 0=21:=by unfold spE; rw [if_pos h,if_pos rfl,if_neg hf]
theorem spV_doubt {e x:Int} (hf:¬ fdAll B L n=none):spV A n L nl B nf W nw e x=0:=if_neg (fun q=>hf q.2.2)
theorem spE_ok (h:clE A n L nl nf W nw=0) (hf:fdAll B L n=none):spE A n L nl B nf W nw 0=0:=by unfold spE; rw [if_pos h,if_pos rfl,if_pos hf]
theorem spV_ok {x:Int} (h:clE A n L nl nf W nw=0) (hf:fdAll B L n=none):spV A n L nl B nf W nw 0 x=x:=if_pos ⟨h,rfl,hf⟩
end
open Classical in
def shE (p q:Int):Int:=if 0≤p∧p≤q∧q≤1000 then 0 else 3
section
variable (A : List Int) (B : List Bool) (L : List (Int × Int)) (W : List Int) (p q : Int) (w : World)
@[reducible] def q30_4:=(OutR Try.prog Try.f31 36 (.tuple #[.agg #[.int .i64 (spV (cI A) A.length (cR L) L.length (cB B) B.length (cI W) W.length (shE p q) (sumG (cI W) (fun k=>((rdB (cI A) A.length (cR L) (cB B) W.length W.length).1 k * p).tdiv 1000) W.length)),.int .i64 (spV (cI A) A.length (cR L) L.length (cB B) B.length (cI W) W.length (shE p q) (sumG (cI W) (fun k=>((rdB (cI A) A.length (cR L) (cB B) W.length W.length).2 k * q).tdiv 1000) W.length))],.int .i64 (spE (cI A) A.length (cR L) L.length (cB B) B.length (cI W) W.length (shE p q))]) w)
end
theorem sumG_lo {l:List AV} (hl:l.length=4) {W:List AV} {lo hi:Nat→Int} {n:Nat} (h:n≤91):sumG W (loF (bdT l lo hi)) n=sumG W lo n:=sumG_ext n (fun k hk=>by rw [bdT_eq]; exact loF_bd hl (by omega))
theorem sumG_hi {l:List AV} (hl:l.length=4) {W:List AV} {lo hi:Nat→Int} {n:Nat} (h:n≤91):sumG W (hiF (bdT l lo hi)) n=sumG W hi n:=sumG_ext n (fun k hk=>by rw [bdT_eq]; exact hiF_bd hl (by omega))
theorem sumG_clo {l:List AV} (hl:l.length=4) {W:List AV} {lo hi:Nat→Int} {p:Int} {n:Nat} (h:n≤91):sumG W (fun k=>(loF (bdT l lo hi) k * p).tdiv 1000) n=sumG W (fun k=>(lo k * p).tdiv 1000) n:=sumG_ext n (fun k hk=>by show (loF _ k * p).tdiv 1000=_; rw [bdT_eq,loF_bd hl (by omega)])
theorem sumG_chi {l:List AV} (hl:l.length=4) {W:List AV} {lo hi:Nat→Int} {p:Int} {n:Nat} (h:n≤91):sumG W (fun k=>(hiF (bdT l lo hi) k * p).tdiv 1000) n=sumG W (fun k=>(hi k * p).tdiv 1000) n:=sumG_ext n (fun k hk=>by show (hiF _ k * p).tdiv 1000=_; rw [bdT_eq,hiF_bd hl (by omega)])
section
variable {A W : List Int} {L : List (Int × Int)} {B : List Bool}
theorem rdB_rng (hz:clE (cI A) A.length (cR L) L.length B.length (cI W) W.length=0):RngX (rdB (cI A) A.length (cR L) (cB B) W.length W.length):=by
 obtain ⟨hn,ha,he,hl,hw⟩:=clE_zero hz
 -- it is what settles
 have:∃ i,zG (cI A) (cR L) (cB B) A.length i=true:=by
  refine Classical.byContradiction fun hno=>?_
  have:=zG_bound (B:=cB B) hn ha he hl 40000 (fun j _=>by
   cases h:zG (cI A) (cR L) (cB B) A.length j with
   | true=>exact absurd ⟨j,h⟩ hno
   | false=>rfl)
  omega
 obtain ⟨i,hi⟩:=this
 have e:=zG_end hn ha he hl i hi
 obtain ⟨-,-,ho,hr,-⟩:=rnG_known (B:=cB B) hn ha he hl i
 obtain ⟨i1,i2⟩:=init_known hn ha he hl
 intro k
 have nw:=(deg_lt' hn ha he (i:=0) (by omega)).2.1
 by_cases hk:k < 91
 ·have a:=hr k; have b:=e k hk; omega
 ·have o2:=rdB_out (A:=cI A) (L:=cR L) (B:=cB B) (n:=A.length) (m:=W.length) W.length i1 k (by omega)
  omega
theorem isBdK_lamp {ya yl yf yw:Value} (hz:clE (cI A) A.length (cR L) L.length B.length (cI W) W.length=0):IsBdK (q30_25 A B L W ya yf yl yw) (q30_17 A B L W ya yf yl yw) :=
 ⟨_,_,bdT_eq,fun k _=>⟨(rdB_rng hz k).1,(rdB_rng hz k).2.1⟩,fun k _=>(rdB_rng hz k).2.2⟩
end
noncomputable def spnK1:Code:=bodyC Try.f27
noncomputable def spnK3:Code:=tlC spnK1
noncomputable def spnK5:Code:=tlC spnK3
noncomputable def spnc4K1:Code:=bodyC Try.f62
theorem spnc4_2 (ya yl yf yw:Value) (A:List Int) (L:List (Int×Int)) (B:List Bool) (W:List Int) (hf:fdAll (cB B) (cR L) A.length=none) (hq4_1:(eqI (clE (cI A) A.length (cR L) L.length B.length (cI W) W.length) 0)=true) (v:BaseW) (eb:Nat→Option Nat) (ec:Nat→Nat):Goes Try.prog 15 spnc4K1 ((q30_16 A B L W ya yf yl yw)) (bw v 2 eb ec) (BackQ 15 (fun _:Unit=>(q30_10 A B L W ya yf yl yw)) (fun _:Unit=>True) (bw v 2 eb ec)):=by
 obtain ⟨hcl_A,hcl_L,hcl_B,hcl_W⟩:=hcZ30 A B L W
 have ghq4_1:=eqI_true hq4_1
 have hz:=ghq4_1
 rcases Bool.eq_false_or_eq_true (eqI (dI (cB B) (cR L) A.length) 0 && (eqI (dK (cB B) (cR L) A.length) 0 && true)) with hqspnc43_1 | hqspnc43_1
 ·skip
  have gx:=hqspnc43_1
  simp only [Bool.and_true,Bool.and_eq_true,eqI_iff,decide_eq_true_eq] at gx
  have gy:=dK_zero.1 gx
  exact goes_leafA isR_e (goes_cut Try.checked.mixed (known_bn) 200 (T':=(q30_10 A B L W ya yf yl yw)) (e:=.ret) (m:=5) (ps:=[IsLampK 1 2 1 1 (cI A) A.length (cR L) L.length (cB B) B.length (cI W) W.length,clE (cI A) A.length (cR L) L.length B.length (cI W) W.length=0,(!(eqI (dI (cB B) (cR L) A.length) 0 && (eqI (dK (cB B) (cR L) A.length) 0 && true)))=false,IsT95 95,IsLampK 1 2 1 1 (cI A) A.length (cR L) L.length (cB B) B.length (cI W) W.length,clE (cI A) A.length (cR L) L.length B.length (cI W) W.length=0,IsT95 95,IsLampK 1 2 1 1 (cI A) A.length (cR L) L.length (cB B) B.length (cI W) W.length,IsOpR (q30_24 A B L W ya yf yl yw) (bdT (q30_24 A B L W ya yf yl yw) (opA (cI A) (cR L) A.length).fst (opA (cI A) (cR L) A.length).snd) (opA (cI A) (cR L) A.length),clE (cI A) A.length (cR L) L.length B.length (cI W) W.length=0]) [.go,.go,.go,.go,.go,.go,.b false,.go,.go,.go,.go,.go,.go,.go] (by kernel_rfl) (by kernel_rfl) ⟨⟨rfl,rfl,rfl,rfl,A,L,B,W,rfl,rfl,rfl,rfl,rfl,rfl,rfl,rfl⟩,hz,(by rw [hqspnc43_1]; rfl),rfl,⟨rfl,rfl,rfl,rfl,A,L,B,W,rfl,rfl,rfl,rfl,rfl,rfl,rfl,rfl⟩,hz,rfl,⟨rfl,rfl,rfl,rfl,A,L,B,W,rfl,rfl,rfl,rfl,rfl,rfl,rfl,rfl⟩,(isOpR_of rfl),hz,trivial⟩ rfl (by show 4≤5; decide) ⟨⟨nb_ptr (by show 3 < 4; decide),nb_v _,trivial⟩,⟨⟨by show 1 < 4; decide,nbb_cells (nb_cons (nb_v _) (nb_cons (nb_v _) (fun _ hz=>absurd hz List.not_mem_nil)))⟩,⟨by show 3 < 4; decide,nbb_cells (nbA_bdT (nb_cons (nb_xl (cI_plain A)) (nb_cons (nb_xl (cR_plain L)) (nb_cons (nb_xl (cB_plain B)) (nb_cons (nb_xl (cI_plain W)) (fun _ hz=>absurd hz List.not_mem_nil))))))⟩,trivial⟩,rfl⟩ (by show 2≤4; decide)) (en_back (()) (show True from trivial) rfl)
 ·skip
  have gy:¬ fdAll (cB B) (cR L) A.length=none:=fun q=>by have q2:=dK_zero.2 q; rw [q2.1,q2.2] at hqspnc43_1; simp [eqI_self] at hqspnc43_1
  exact absurd hf gy
noncomputable def spnK7:Code:=tlC spnK5
theorem spn_8 (ya yl yf yw:Value) (A:List Int) (L:List (Int×Int)) (B:List Bool) (W:List Int) (hf:fdAll (cB B) (cR L) A.length=none) (hq4_1:(eqI (clE (cI A) A.length (cR L) L.length B.length (cI W) W.length) 0)=true) (w:World):Goes Try.prog 23 spnK7 ((q30_9 A B L W ya yf yl yw)) w (OutR Try.prog Try.f27 23 (.tuple #[.agg #[.int .i64 (spV (cI A) A.length (cR L) L.length (cB B) B.length (cI W) W.length 0 (sumG (cI W) (rdB (cI A) A.length (cR L) (cB B) W.length W.length).1 W.length)),.int .i64 (spV (cI A) A.length (cR L) L.length (cB B) B.length (cI W) W.length 0 (sumG (cI W) (rdB (cI A) A.length (cR L) (cB B) W.length W.length).2 W.length))],.int .i64 (spE (cI A) A.length (cR L) L.length (cB B) B.length (cI W) W.length 0)]) w):=by
 obtain ⟨hcl_A,hcl_L,hcl_B,hcl_W⟩:=hcZ30 A B L W
 have ghq4_1:=eqI_true hq4_1
 have hz:=ghq4_1
 exact goes_eqR (r:=.tuple #[.agg #[(.int .i64 (sumG (cI W) (loF (bdT (q30_24 A B L W ya yf yl yw) (rdB (cI A) A.length (cR L) (cB B) W.length W.length).fst (rdB (cI A) A.length (cR L) (cB B) W.length W.length).snd)) W.length)),(.int .i64 (sumG (cI W) (hiF (bdT (q30_24 A B L W ya yf yl yw) (rdB (cI A) A.length (cR L) (cB B) W.length W.length).fst (rdB (cI A) A.length (cR L) (cB B) W.length W.length).snd)) W.length))],(.int .i64 0)]) (by rw [spE_ok hz hf,spV_ok hz hf,spV_ok hz hf,sumG_lo rfl (nw_le hz),sumG_hi rfl (nw_le hz)]) (goes_out Try.checked.mixed (known_bn) 200 (v:=(.tup [(.agg [(.v (.int .i64 (sumG (cI W) (loF (bdT (q30_24 A B L W ya yf yl yw) (rdB (cI A) A.length (cR L) (cB B) W.length W.length).fst (rdB (cI A) A.length (cR L) (cB B) W.length W.length).snd)) W.length))),(.v (.int .i64 (sumG (cI W) (hiF (bdT (q30_24 A B L W ya yf yl yw) (rdB (cI A) A.length (cR L) (cB B) W.length W.length).fst (rdB (cI A) A.length (cR L) (cB B) W.length W.length).snd)) W.length)))]),(.v (.int .i64 (.ofNat 0)))])) (ps:=[(!eqI ((0:Int)) 0)=false,FreeL (cI A),FreeL (cR L),FreeL (cB B),FreeL (cI W),IsT95 95,IsLampK 1 2 1 1 (cI A) A.length (cR L) L.length (cB B) B.length (cI W) W.length,clE (cI A) A.length (cR L) L.length B.length (cI W) W.length=0,IsBdK (q30_24 A B L W ya yf yl yw) (bdT (q30_24 A B L W ya yf yl yw) (rdB (cI A) A.length (cR L) (cB B) W.length W.length).fst (rdB (cI A) A.length (cR L) (cB B) W.length W.length).snd),FreeL (cI A),FreeL (cR L),FreeL (cB B),FreeL (cI W),IsT95 95,IsLampK 1 2 1 1 (cI A) A.length (cR L) L.length (cB B) B.length (cI W) W.length,clE (cI A) A.length (cR L) L.length B.length (cI W) W.length=0,IsBdK (q30_24 A B L W ya yf yl yw) (bdT (q30_24 A B L W ya yf yl yw) (rdB (cI A) A.length (cR L) (cB B) W.length W.length).fst (rdB (cI A) A.length (cR L) (cB B) W.length W.length).snd)]) [.go,.go,.b false,.go,.go,.go,.go,.go,.go,.go,.go,.go,.go,.go,.go,.go,.go,.go,.go,.go] (by kernel_rfl) (by kernel_rfl) ⟨rfl,(freeL_plain (cI_plain A)),(freeL_plain (cR_plain L)),(freeL_plain (cB_plain B)),(freeL_plain (cI_plain W)),rfl,⟨rfl,rfl,rfl,rfl,A,L,B,W,rfl,rfl,rfl,rfl,rfl,rfl,rfl,rfl⟩,hz,(isBdK_lamp hz),(freeL_plain (cI_plain A)),(freeL_plain (cR_plain L)),(freeL_plain (cB_plain B)),(freeL_plain (cI_plain W)),rfl,⟨rfl,rfl,rfl,rfl,A,L,B,W,rfl,rfl,rfl,rfl,rfl,rfl,rfl,rfl⟩,hz,(isBdK_lamp hz),trivial⟩ rfl)
theorem spn_6 (ya yl yf yw:Value) (A:List Int) (L:List (Int×Int)) (B:List Bool) (W:List Int) (hf:fdAll (cB B) (cR L) A.length=none) (hq4_1:(q30_29 A B L W)=true) (w:World):Goes Try.prog 23 spnK5 ((q30_13 A B L W ya yf yl yw)) w (q30_7 A B L W w):=by
 obtain ⟨hcl_A,hcl_L,hcl_B,hcl_W⟩:=hcZ30 A B L W
 have ghq4_1:=eqI_true hq4_1
 have hz:=ghq4_1
 refine goes_spineQ (ι:=Unit) (T:=fun _:Unit=>(q30_9 A B L W ya yf yl yw)) (R:=fun _:Unit=>True) (by kernel_rfl) (goes_rg (by kernel_rfl) (goesL_toldC Try.checked.mixed (known_bn) 200 1 (T1:=⟨[(2,(.ptr 1 0)),(14,(q30_22 A B L W ya yf yl yw))],[],2,[q30_27]⟩) (e:=.normal) (ps:=[]) [.go] (by kernel_rfl) (by kernel_rfl) (by kernel_rfl) trivial (goesL_callT (ι:=Unit) (T1:=(q30_16 A B L W ya yf yl yw)) (T2:=(fun _:Unit=>(q30_10 A B L W ya yf yl yw))) (T3:=fun _:Unit=>⟨[(2,(.ptr 1 0)),(15,(.tup [(.agg (q30_17 A B L W ya yf yl yw)),(.v (.int .i64 (.ofNat 0)))]))],[],4,[q30_27]⟩) (R:=(fun _:Unit=>True)) (k:=62) (szk:=15) (by kernel_rfl) Try.func62 (by kernel_rfl) (by kernel_rfl) (by kernel_rfl) (by kernel_rfl) (fun v eb ec=>spnc4_2 ya yl yf yw A L B W hf hq4_1 v eb ec) (fun _ _=>by kernel_rfl) (fun _ hR=>goesL_toldC Try.checked.mixed (known_bn) 200 6 (T1:=(q30_9 A B L W ya yf yl yw)) (e:=.normal) (ps:=[]) [.go,.go,.go,.go,.go,.go] (by kernel_rfl) (by kernel_rfl) (by kernel_rfl) trivial (goesL_endQ () hR (by kernel_rfl) (holds_view (by kernel_rfl) (by kernel_rfl) (by kernel_rfl) (by kernel_rfl))))))) (fun _ hxR=>spn_8 ya yl yf yw A L B W hf hq4_1  w)
theorem spn_4 (ya yl yf yw:Value) (A:List Int) (L:List (Int×Int)) (B:List Bool) (W:List Int) (hf:fdAll (cB B) (cR L) A.length=none) (w:World):Goes Try.prog 23 spnK3 ((q30_13 A B L W ya yf yl yw)) w (OutR Try.prog Try.f27 23 (.tuple #[.agg #[.int .i64 (spV (cI A) A.length (cR L) L.length (cB B) B.length (cI W) W.length 0 (sumG (cI W) (rdB (cI A) A.length (cR L) (cB B) W.length W.length).1 W.length)),.int .i64 (spV (cI A) A.length (cR L) L.length (cB B) B.length (cI W) W.length 0 (sumG (cI W) (rdB (cI A) A.length (cR L) (cB B) W.length W.length).2 W.length))],.int .i64 (spE (cI A) A.length (cR L) L.length (cB B) B.length (cI W) W.length 0)]) w):=by
 obtain ⟨hcl_A,hcl_L,hcl_B,hcl_W⟩:=hcZ30 A B L W
 rcases Bool.eq_false_or_eq_true (eqI (clE (cI A) A.length (cR L) L.length B.length (cI W) W.length) 0) with hq4_1 | hq4_1
 ·skip
  have ghq4_1:=eqI_true hq4_1
  have hz:=ghq4_1
  exact goes_spine (T':=(q30_13 A B L W ya yf yl yw)) (by kernel_rfl) (goes_told Try.checked.mixed (known_bn) 200 (T':=(q30_13 A B L W ya yf yl yw)) (e:=.normal) (ps:=[IsLampK 1 2 1 1 (cI A) A.length (cR L) L.length (cB B) B.length (cI W) W.length,(!eqI (clE (cI A) A.length (cR L) L.length B.length (cI W) W.length) 0)=false]) [.go,.go,.go,.go,.b false] (by kernel_rfl) (by kernel_rfl) ⟨⟨rfl,rfl,rfl,rfl,A,L,B,W,rfl,rfl,rfl,rfl,rfl,rfl,rfl,rfl⟩,(by rw [hq4_1]; rfl),trivial⟩ rfl) (spn_6 ya yl yf yw A L B W hf hq4_1 w)
 ·skip
  have ghq4_1:=eqI_false hq4_1
  have hnz:=ghq4_1
  exact goes_eqR (r:=.tuple #[.agg #[(.int .i64 0),(.int .i64 0)],(.int .i64 (clE (cI A) A.length (cR L) L.length B.length (cI W) W.length))]) (by rw [spE_lamp hnz,spV_lamp hnz,spV_lamp hnz]) (goes_out Try.checked.mixed (known_bn) 200 (v:=(.tup [(.agg [(.v (.int .i64 (.ofNat 0))),(.v (.int .i64 (.ofNat 0)))]),(.v (.int .i64 (clE (cI A) A.length (cR L) L.length B.length (cI W) W.length)))])) (ps:=[IsLampK 1 2 1 1 (cI A) A.length (cR L) L.length (cB B) B.length (cI W) W.length,(!eqI (clE (cI A) A.length (cR L) L.length B.length (cI W) W.length) 0)=true]) [.go,.go,.go,.go,.b true,.go,.go,.go,.go] (by kernel_rfl) (by kernel_rfl) ⟨⟨rfl,rfl,rfl,rfl,A,L,B,W,rfl,rfl,rfl,rfl,rfl,rfl,rfl,rfl⟩,(by rw [hq4_1]; rfl),trivial⟩ rfl)
theorem spn_2 (ya yl yf yw:Value) (A:List Int) (L:List (Int×Int)) (B:List Bool) (W:List Int) (hf:fdAll (cB B) (cR L) A.length=none) (w:World):Goes Try.prog 23 spnK1 (⟨[(0,.agg (q30_25 A B L W ya yf yl yw))],[],0,[]⟩) w (q30_7 A B L W w):=by
 obtain ⟨hcl_A,hcl_L,hcl_B,hcl_W⟩:=hcZ30 A B L W
 exact goes_spine (T':=(q30_13 A B L W ya yf yl yw)) (by kernel_rfl) (goes_told Try.checked.mixed (known_bn) 200 (T':=(q30_13 A B L W ya yf yl yw)) (e:=.normal) (ps:=[]) [.go,.go,.go] (by kernel_rfl) (by kernel_rfl) trivial rfl) (spn_4 ya yl yf yw A L B W hf w)
theorem spn_g (ya yl yf yw:Value) (A:List Int) (L:List (Int×Int)) (B:List Bool) (W:List Int) (hf:fdAll (cB B) (cR L) A.length=none):GivesA Try.prog 27 [.agg [.xl ya A.length 1 (cI A),.xl yl L.length 2 (cR L),.xl yf B.length 1 (cB B),.xl yw W.length 1 (cI W)]] (.tuple #[.agg #[.int .i64 (spV (cI A) A.length (cR L) L.length (cB B) B.length (cI W) W.length 0 (sumG (cI W) (rdB (cI A) A.length (cR L) (cB B) W.length W.length).1 W.length)),.int .i64 (spV (cI A) A.length (cR L) L.length (cB B) B.length (cI W) W.length 0 (sumG (cI W) (rdB (cI A) A.length (cR L) (cB B) W.length W.length).2 W.length))],.int .i64 (spE (cI A) A.length (cR L) L.length (cB B) B.length (cI W) W.length 0)]) :=
 givesA_parts 23 Try.func27 (by kernel_rfl) (by kernel_rfl) (by kernel_rfl) (fun w=>goes_less (by kernel_rfl) (by kernel_rfl) (by kernel_rfl) (by kernel_rfl) (spn_2 ya yl yf yw A L B W hf w))
noncomputable def codK1:Code:=bodyC Try.f31
noncomputable def codK3:Code:=tlC codK1
noncomputable def codK5:Code:=tlC codK3
noncomputable def codK7:Code:=tlC codK5
noncomputable def codc6K1:Code:=bodyC Try.f62
theorem codc6_2 (ya yl yf yw:Value) (A:List Int) (L:List (Int×Int)) (B:List Bool) (W:List Int) (p q:Int) (hf:¬ fdAll (cB B) (cR L) A.length=none) (hq4_1:(eqI (clE (cI A) A.length (cR L) L.length B.length (cI W) W.length) 0)=true) (hq6_1:(ltI p 0)=false) (hq6_2:(ltI q p)=false) (hq6_3:(ltI 1000 q)=false) (v:BaseW) (eb:Nat→Option Nat) (ec:Nat→Nat):Goes Try.prog 15 codc6K1 ((q30_8 A B L W p q ya yf yl yw)) (bw v 5 eb ec) (BackQ 15 (fun _:Unit=>(q30_5 A B L W p q ya yf yl yw)) (fun _:Unit=>True) (bw v 5 eb ec)):=by
 obtain ⟨hcl_A,hcl_L,hcl_B,hcl_W⟩:=hcZ30 A B L W
 have ghq4_1:=eqI_true hq4_1
 have hz:=ghq4_1
 have ghq6_1:=ltI_false hq6_1
 have ghq6_2:=ltI_false hq6_2
 have ghq6_3:=ltI_false hq6_3
 rcases Bool.eq_false_or_eq_true (eqI (dI (cB B) (cR L) A.length) 0 && (eqI (dK (cB B) (cR L) A.length) 0 && true)) with hqcodc63_1 | hqcodc63_1
 ·skip
  have gx:=hqcodc63_1
  simp only [Bool.and_true,Bool.and_eq_true,eqI_iff,decide_eq_true_eq] at gx
  have gy:=dK_zero.1 gx
  exact absurd gy hf
 ·skip
  have gy:¬ fdAll (cB B) (cR L) A.length=none:=fun q=>by have q2:=dK_zero.2 q; rw [q2.1,q2.2] at hqcodc63_1; simp [eqI_self] at hqcodc63_1
  exact goes_leafA isR_e (goes_told Try.checked.mixed (known_bn) 200 (T':=(q30_5 A B L W p q ya yf yl yw)) (e:=.ret) (ps:=[IsLampK 1 2 1 1 (cI A) A.length (cR L) L.length (cB B) B.length (cI W) W.length,clE (cI A) A.length (cR L) L.length B.length (cI W) W.length=0,(!(eqI (dI (cB B) (cR L) A.length) 0 && (eqI (dK (cB B) (cR L) A.length) 0 && true)))=true]) [.go,.go,.go,.go,.go,.go,.b true,.go,.go,.go] (by kernel_rfl) (by kernel_rfl) ⟨⟨rfl,rfl,rfl,rfl,A,L,B,W,rfl,rfl,rfl,rfl,rfl,rfl,rfl,rfl⟩,hz,(by rw [hqcodc63_1]; rfl),trivial⟩ rfl) (en_back (()) (show True from trivial) rfl)
noncomputable def codK9:Code:=tlC codK7
theorem cod_10 (ya yl yf yw:Value) (A:List Int) (L:List (Int×Int)) (B:List Bool) (W:List Int) (p q:Int) (hf:¬ fdAll (cB B) (cR L) A.length=none) (hq4_1:(q30_29 A B L W)=true) (hq6_1:(ltI p 0)=false) (hq6_2:(ltI q p)=false) (hq6_3:(ltI 1000 q)=false) (w:World):Goes Try.prog 36 codK9 ((q30_3 A B L W p q ya yf yl yw)) w (q30_4 A B L W p q w):=by
 obtain ⟨hcl_A,hcl_L,hcl_B,hcl_W⟩:=hcZ30 A B L W
 have ghq4_1:=eqI_true hq4_1
 have hz:=ghq4_1
 have ghq6_1:=ltI_false hq6_1
 have ghq6_2:=ltI_false hq6_2
 have ghq6_3:=ltI_false hq6_3
 exact goes_eqR (r:=.tuple #[.agg #[(.int .i64 0),(.int .i64 0)],(.int .i64 21)]) (by have q3:shE p q=0:=if_pos ⟨by omega,by omega,by omega⟩; rw [q3,spE_doubt hz hf,spV_doubt hf,spV_doubt hf]) (goes_out Try.checked.mixed (known_bn) 200 (v:=(.tup [(.agg [(.v (.int .i64 (.ofNat 0))),(.v (.int .i64 (.ofNat 0)))]),(.v (.int .i64 (.ofNat 21)))])) (ps:=[(!eqI ((21:Int)) 0)=true]) [.go,.go,.b true,.go,.go,.go,.go] (by kernel_rfl) (by kernel_rfl) ⟨rfl,trivial⟩ rfl)
theorem cod_8 (ya yl yf yw:Value) (A:List Int) (L:List (Int×Int)) (B:List Bool) (W:List Int) (p q:Int) (hf:¬ fdAll (cB B) (cR L) A.length=none) (hq4_1:(q30_29 A B L W)=true) (hq6_1:(ltI p 0)=false) (hq6_2:(ltI q p)=false) (hq6_3:(ltI 1000 q)=false) (w:World):Goes Try.prog 36 codK7 ((q30_12 A B L W p q ya yf yl yw)) w (q30_4 A B L W p q w):=by
 obtain ⟨hcl_A,hcl_L,hcl_B,hcl_W⟩:=hcZ30 A B L W
 have ghq4_1:=eqI_true hq4_1
 have hz:=ghq4_1
 have ghq6_1:=ltI_false hq6_1
 have ghq6_2:=ltI_false hq6_2
 have ghq6_3:=ltI_false hq6_3
 refine goes_spineQ (ι:=Unit) (T:=fun _:Unit=>(q30_3 A B L W p q ya yf yl yw)) (R:=fun _:Unit=>True) (by kernel_rfl) (goes_rg (by kernel_rfl) (goesL_toldC Try.checked.mixed (known_bn) 200 1 (T1:=(q30_6 A B L W p q ya yf yl yw)) (e:=.normal) (ps:=[]) [.go] (by kernel_rfl) (by kernel_rfl) (by kernel_rfl) trivial (goesL_callT (ι:=Unit) (T1:=(q30_8 A B L W p q ya yf yl yw)) (T2:=(fun _:Unit=>(q30_5 A B L W p q ya yf yl yw))) (T3:=fun _:Unit=>⟨[(2,(.ptr 0 0)),(3,(.ptr 1 0)),(4,(.ptr 2 0)),(22,(.tup [(.agg q30_19),(.v (.int .i64 (.ofNat 21)))]))],[],7,[(q30_20 A B L W ya yf yl yw),(1,(.cells [(.v (.int .i64 (p))),(.v (.int .i64 (q)))] 40)),q30_26]⟩) (R:=(fun _:Unit=>True)) (k:=62) (szk:=15) (by kernel_rfl) Try.func62 (by kernel_rfl) (by kernel_rfl) (by kernel_rfl) (by kernel_rfl) (fun v eb ec=>codc6_2 ya yl yf yw A L B W p q hf hq4_1 hq6_1 hq6_2 hq6_3 v eb ec) (fun _ _=>by kernel_rfl) (fun _ hR=>goesL_toldC Try.checked.mixed (known_bn) 200 6 (T1:=(q30_3 A B L W p q ya yf yl yw)) (e:=.normal) (ps:=[]) [.go,.go,.go,.go,.go,.go] (by kernel_rfl) (by kernel_rfl) (by kernel_rfl) trivial (goesL_endQ () hR (by kernel_rfl) (holds_view (by kernel_rfl) (by kernel_rfl) (by kernel_rfl) (by kernel_rfl))))))) (fun _ hxR=>cod_10 ya yl yf yw A L B W p q hf hq4_1 hq6_1 hq6_2 hq6_3  w)
theorem cod_6 (ya yl yf yw:Value) (A:List Int) (L:List (Int×Int)) (B:List Bool) (W:List Int) (p q:Int) (hf:¬ fdAll (cB B) (cR L) A.length=none) (hq4_1:(q30_29 A B L W)=true) (w:World):Goes Try.prog 36 codK5 ((q30_11 A B L W p q ya yf yl yw)) w (q30_4 A B L W p q w):=by
 obtain ⟨hcl_A,hcl_L,hcl_B,hcl_W⟩:=hcZ30 A B L W
 have ghq4_1:=eqI_true hq4_1
 have hz:=ghq4_1
 rcases Bool.eq_false_or_eq_true (ltI p 0) with hq6_1 | hq6_1
 ·skip
  have ghq6_1:=ltI_true hq6_1
  exact goes_eqR (r:=.tuple #[.agg #[(.int .i64 0),(.int .i64 0)],(.int .i64 3)]) (by have q3:shE p q=3:=if_neg (fun c9=>by omega); rw [q3,spE_arg hz (by decide),spV_arg (by decide),spV_arg (by decide)]) (goes_out Try.checked.mixed (known_bn) 200 (v:=(.tup [(.agg [(.v (.int .i64 (.ofNat 0))),(.v (.int .i64 (.ofNat 0)))]),(.v (.int .i64 (.ofNat 3)))])) (ps:=[ltI 0 ((1:Nat):Int)=true,ltI p 0=true,true=true,true=true,true=true,true=true,true=true,true=true,true=true,true=true,true=true,(!false)=true]) [.go,.go,.go,.go,.go,.go,.go,.b true,.go,.go,.go,.go,.go,.go,.go,.go,.b true,.b true,.b true,.b true,.b true,.go,.go,.b true,.b true,.b true,.b true,.go,.b true,.go,.go,.b true,.go,.go,.go] (by kernel_rfl) (by kernel_rfl) ⟨rfl,hq6_1,rfl,rfl,rfl,rfl,rfl,rfl,rfl,rfl,rfl,rfl,trivial⟩ rfl)
 ·skip
  have ghq6_1:=ltI_false hq6_1
  rcases Bool.eq_false_or_eq_true (ltI q p) with hq6_2 | hq6_2
  ·skip
   have ghq6_2:=ltI_true hq6_2
   exact goes_eqR (r:=.tuple #[.agg #[(.int .i64 0),(.int .i64 0)],(.int .i64 3)]) (by have q3:shE p q=3:=if_neg (fun c9=>by omega); rw [q3,spE_arg hz (by decide),spV_arg (by decide),spV_arg (by decide)]) (goes_out Try.checked.mixed (known_bn) 200 (v:=(.tup [(.agg [(.v (.int .i64 (.ofNat 0))),(.v (.int .i64 (.ofNat 0)))]),(.v (.int .i64 (.ofNat 3)))])) (ps:=[ltI 0 ((1:Nat):Int)=true,ltI p 0=false,false=false,false=false,false=false,false=false,ltI q p=true,true=true,true=true,true=true,true=true,(!false)=true]) [.go,.go,.go,.go,.go,.go,.go,.b true,.go,.go,.go,.go,.go,.go,.go,.go,.b false,.go,.b false,.go,.b false,.go,.b false,.go,.b false,.go,.go,.go,.b true,.b true,.b true,.b true,.go,.b true,.go,.go,.b true,.go,.go,.go] (by kernel_rfl) (by kernel_rfl) ⟨rfl,hq6_1,rfl,rfl,rfl,rfl,hq6_2,rfl,rfl,rfl,rfl,rfl,trivial⟩ rfl)
  ·skip
   have ghq6_2:=ltI_false hq6_2
   rcases Bool.eq_false_or_eq_true (ltI 1000 q) with hq6_3 | hq6_3
   ·skip
    have ghq6_3:=ltI_true hq6_3
    exact goes_eqR (r:=.tuple #[.agg #[(.int .i64 0),(.int .i64 0)],(.int .i64 3)]) (by have q3:shE p q=3:=if_neg (fun c9=>by omega); rw [q3,spE_arg hz (by decide),spV_arg (by decide),spV_arg (by decide)]) (goes_out Try.checked.mixed (known_bn) 200 (v:=(.tup [(.agg [(.v (.int .i64 (.ofNat 0))),(.v (.int .i64 (.ofNat 0)))]),(.v (.int .i64 (.ofNat 3)))])) (ps:=[ltI 0 ((1:Nat):Int)=true,ltI p 0=false,false=false,false=false,false=false,false=false,ltI q p=false,false=false,false=false,false=false,ltI 1000 q=true,(!false)=true]) [.go,.go,.go,.go,.go,.go,.go,.b true,.go,.go,.go,.go,.go,.go,.go,.go,.b false,.go,.b false,.go,.b false,.go,.b false,.go,.b false,.go,.go,.go,.b false,.go,.b false,.go,.b false,.go,.b false,.go,.go,.b true,.go,.go,.b true,.go,.go,.go] (by kernel_rfl) (by kernel_rfl) ⟨rfl,hq6_1,rfl,rfl,rfl,rfl,hq6_2,rfl,rfl,rfl,hq6_3,rfl,trivial⟩ rfl)
   ·skip
    have ghq6_3:=ltI_false hq6_3
    exact goes_spine (T':=(q30_12 A B L W p q ya yf yl yw)) (by kernel_rfl) (goes_told Try.checked.mixed (known_bn) 200 (T':=(q30_12 A B L W p q ya yf yl yw)) (e:=.normal) (ps:=[ltI 0 ((1:Nat):Int)=true,ltI p 0=false,false=false,false=false,false=false,false=false,ltI q p=false,false=false,false=false,false=false,ltI 1000 q=false,inR IntKind.i64 (0 + 1),ltI (0 + 1) ((1:Nat):Int)=false,(!true)=false]) [.go,.go,.go,.go,.go,.go,.go,.b true,.go,.go,.go,.go,.go,.go,.go,.go,.b false,.go,.b false,.go,.b false,.go,.b false,.go,.b false,.go,.go,.go,.b false,.go,.b false,.go,.b false,.go,.b false,.go,.go,.b false,.go,.go,.go,.b false,.go,.go,.b false] (by kernel_rfl) (by kernel_rfl) ⟨rfl,hq6_1,rfl,rfl,rfl,rfl,hq6_2,rfl,rfl,rfl,hq6_3,(by show -9223372036854775808≤_∧_≤9223372036854775807; constructor <;> omega),rfl,rfl,trivial⟩ rfl) (cod_8 ya yl yf yw A L B W p q hf hq4_1 hq6_1 hq6_2 hq6_3 w)
noncomputable def conK1:Code:=bodyC Try.f31
noncomputable def conK3:Code:=tlC conK1
noncomputable def conK5:Code:=tlC conK3
noncomputable def conK7:Code:=tlC conK5
noncomputable def conc6K1:Code:=bodyC Try.f62
theorem conc6_2 (ya yl yf yw:Value) (A:List Int) (L:List (Int×Int)) (B:List Bool) (W:List Int) (p q:Int) (hf:fdAll (cB B) (cR L) A.length=none) (hq4_1:(eqI (clE (cI A) A.length (cR L) L.length B.length (cI W) W.length) 0)=true) (hq6_1:(ltI p 0)=false) (hq6_2:(ltI q p)=false) (hq6_3:(ltI 1000 q)=false) (v:BaseW) (eb:Nat→Option Nat) (ec:Nat→Nat):Goes Try.prog 15 conc6K1 ((q30_8 A B L W p q ya yf yl yw)) (bw v 5 eb ec) (BackQ 15 (fun _:Unit=>(q30_2 A B L W p q ya yf yl yw)) (fun _:Unit=>True) (bw v 5 eb ec)):=by
 obtain ⟨hcl_A,hcl_L,hcl_B,hcl_W⟩:=hcZ30 A B L W
 have ghq4_1:=eqI_true hq4_1
 have hz:=ghq4_1
 have ghq6_1:=ltI_false hq6_1
 have ghq6_2:=ltI_false hq6_2
 have ghq6_3:=ltI_false hq6_3
 rcases Bool.eq_false_or_eq_true (eqI (dI (cB B) (cR L) A.length) 0 && (eqI (dK (cB B) (cR L) A.length) 0 && true)) with hqconc63_1 | hqconc63_1
 ·skip
  have gx:=hqconc63_1
  simp only [Bool.and_true,Bool.and_eq_true,eqI_iff,decide_eq_true_eq] at gx
  have gy:=dK_zero.1 gx
  exact goes_leafA isR_e (goes_cut Try.checked.mixed (known_bn) 200 (T':=(q30_2 A B L W p q ya yf yl yw)) (e:=.ret) (m:=8) (ps:=[IsLampK 1 2 1 1 (cI A) A.length (cR L) L.length (cB B) B.length (cI W) W.length,clE (cI A) A.length (cR L) L.length B.length (cI W) W.length=0,(!(eqI (dI (cB B) (cR L) A.length) 0 && (eqI (dK (cB B) (cR L) A.length) 0 && true)))=false,IsT95 95,IsLampK 1 2 1 1 (cI A) A.length (cR L) L.length (cB B) B.length (cI W) W.length,clE (cI A) A.length (cR L) L.length B.length (cI W) W.length=0,IsT95 95,IsLampK 1 2 1 1 (cI A) A.length (cR L) L.length (cB B) B.length (cI W) W.length,IsOpR (q30_24 A B L W ya yf yl yw) (bdT (q30_24 A B L W ya yf yl yw) (opA (cI A) (cR L) A.length).fst (opA (cI A) (cR L) A.length).snd) (opA (cI A) (cR L) A.length),clE (cI A) A.length (cR L) L.length B.length (cI W) W.length=0]) [.go,.go,.go,.go,.go,.go,.b false,.go,.go,.go,.go,.go,.go,.go] (by kernel_rfl) (by kernel_rfl) ⟨⟨rfl,rfl,rfl,rfl,A,L,B,W,rfl,rfl,rfl,rfl,rfl,rfl,rfl,rfl⟩,hz,(by rw [hqconc63_1]; rfl),rfl,⟨rfl,rfl,rfl,rfl,A,L,B,W,rfl,rfl,rfl,rfl,rfl,rfl,rfl,rfl⟩,hz,rfl,⟨rfl,rfl,rfl,rfl,A,L,B,W,rfl,rfl,rfl,rfl,rfl,rfl,rfl,rfl⟩,(isOpR_of rfl),hz,trivial⟩ rfl (by show 7≤8; decide) ⟨⟨nb_ptr (by show 6 < 7; decide),nb_v _,trivial⟩,⟨⟨by show 0 < 7; decide,nbb_cells (nb_cons (nb_xl (cI_plain A)) (nb_cons (nb_xl (cR_plain L)) (nb_cons (nb_xl (cB_plain B)) (nb_cons (nb_xl (cI_plain W)) (fun _ hz=>absurd hz List.not_mem_nil)))))⟩,⟨by show 1 < 7; decide,nbb_cells (nb_cons (nb_v _) (nb_cons (nb_v _) (fun _ hz=>absurd hz List.not_mem_nil)))⟩,⟨by show 2 < 7; decide,nbb_cells (nb_cons (nb_v _) (nb_cons (nb_v _) (fun _ hz=>absurd hz List.not_mem_nil)))⟩,⟨by show 6 < 7; decide,nbb_cells (nbA_bdT (nb_cons (nb_xl (cI_plain A)) (nb_cons (nb_xl (cR_plain L)) (nb_cons (nb_xl (cB_plain B)) (nb_cons (nb_xl (cI_plain W)) (fun _ hz=>absurd hz List.not_mem_nil))))))⟩,trivial⟩,rfl⟩ (by show 5≤7; decide)) (en_back (()) (show True from trivial) rfl)
 ·skip
  have gy:¬ fdAll (cB B) (cR L) A.length=none:=fun q=>by have q2:=dK_zero.2 q; rw [q2.1,q2.2] at hqconc63_1; simp [eqI_self] at hqconc63_1
  exact absurd hf gy
noncomputable def conK9:Code:=tlC conK7
theorem con_10 (ya yl yf yw:Value) (A:List Int) (L:List (Int×Int)) (B:List Bool) (W:List Int) (p q:Int) (hf:fdAll (cB B) (cR L) A.length=none) (hq4_1:(eqI (clE (cI A) A.length (cR L) L.length B.length (cI W) W.length) 0)=true) (hq6_1:(ltI p 0)=false) (hq6_2:(ltI q p)=false) (hq6_3:(ltI 1000 q)=false) (w:World):Goes Try.prog 36 conK9 ((q30_1 A B L W p q ya yf yl yw)) w (OutR Try.prog Try.f31 36 (.tuple #[.agg #[.int .i64 (spV (cI A) A.length (cR L) L.length (cB B) B.length (cI W) W.length (shE p q) (sumG (cI W) (fun k=>((rdB (cI A) A.length (cR L) (cB B) W.length W.length).1 k * p).tdiv 1000) W.length)),.int .i64 (spV (cI A) A.length (cR L) L.length (cB B) B.length (cI W) W.length (shE p q) (sumG (cI W) (fun k=>((rdB (cI A) A.length (cR L) (cB B) W.length W.length).2 k * q).tdiv 1000) W.length))],.int .i64 (spE (cI A) A.length (cR L) L.length (cB B) B.length (cI W) W.length (shE p q))]) w):=by
 obtain ⟨hcl_A,hcl_L,hcl_B,hcl_W⟩:=hcZ30 A B L W
 have ghq4_1:=eqI_true hq4_1
 have hz:=ghq4_1
 have ghq6_1:=ltI_false hq6_1
 have ghq6_2:=ltI_false hq6_2
 have ghq6_3:=ltI_false hq6_3
 exact goes_eqR (r:=.tuple #[.agg #[(.int .i64 (sumG (cI W) (fun k=>(loF (bdT (q30_24 A B L W ya yf yl yw) (rdB (cI A) A.length (cR L) (cB B) W.length W.length).fst (rdB (cI A) A.length (cR L) (cB B) W.length W.length).snd) k * p).tdiv 1000) W.length)),(.int .i64 (sumG (cI W) (fun k=>(hiF (bdT (q30_24 A B L W ya yf yl yw) (rdB (cI A) A.length (cR L) (cB B) W.length W.length).fst (rdB (cI A) A.length (cR L) (cB B) W.length W.length).snd) k * q).tdiv 1000) W.length))],(.int .i64 0)]) (by have q3:shE p q=0:=if_pos ⟨by omega,by omega,by omega⟩; rw [q3,spE_ok hz hf,spV_ok hz hf,spV_ok hz hf,sumG_clo rfl (nw_le hz),sumG_chi rfl (nw_le hz)]) (goes_out Try.checked.mixed (known_bn) 200 (v:=(.tup [(.agg [(.v (.int .i64 (sumG (cI W) (fun k=>(loF (bdT (q30_24 A B L W ya yf yl yw) (rdB (cI A) A.length (cR L) (cB B) W.length W.length).fst (rdB (cI A) A.length (cR L) (cB B) W.length W.length).snd) k * p).tdiv 1000) W.length))),(.v (.int .i64 (sumG (cI W) (fun k=>(hiF (bdT (q30_24 A B L W ya yf yl yw) (rdB (cI A) A.length (cR L) (cB B) W.length W.length).fst (rdB (cI A) A.length (cR L) (cB B) W.length W.length).snd) k * q).tdiv 1000) W.length)))]),(.v (.int .i64 (.ofNat 0)))])) (ps:=[(!eqI ((0:Int)) 0)=false,FreeL (cI A),FreeL (cR L),FreeL (cB B),FreeL (cI W),IsT95 95,((40:Nat)=40),IsLampK 1 2 1 1 (cI A) A.length (cR L) L.length (cB B) B.length (cI W) W.length,clE (cI A) A.length (cR L) L.length B.length (cI W) W.length=0,IsBdK (q30_24 A B L W ya yf yl yw) (bdT (q30_24 A B L W ya yf yl yw) (rdB (cI A) A.length (cR L) (cB B) W.length W.length).fst (rdB (cI A) A.length (cR L) (cB B) W.length W.length).snd),IsShare p q,FreeL (cI A),FreeL (cR L),FreeL (cB B),FreeL (cI W),IsT95 95,((40:Nat)=40),IsLampK 1 2 1 1 (cI A) A.length (cR L) L.length (cB B) B.length (cI W) W.length,clE (cI A) A.length (cR L) L.length B.length (cI W) W.length=0,IsBdK (q30_24 A B L W ya yf yl yw) (bdT (q30_24 A B L W ya yf yl yw) (rdB (cI A) A.length (cR L) (cB B) W.length W.length).fst (rdB (cI A) A.length (cR L) (cB B) W.length W.length).snd),IsShare p q]) [.go,.go,.b false,.go,.go,.go,.go,.go,.go,.go] (by kernel_rfl) (by kernel_rfl) ⟨rfl,(freeL_plain (cI_plain A)),(freeL_plain (cR_plain L)),(freeL_plain (cB_plain B)),(freeL_plain (cI_plain W)),rfl,rfl,⟨rfl,rfl,rfl,rfl,A,L,B,W,rfl,rfl,rfl,rfl,rfl,rfl,rfl,rfl⟩,hz,(isBdK_lamp hz),⟨⟨by omega,by omega⟩,⟨by omega,by omega⟩⟩,(freeL_plain (cI_plain A)),(freeL_plain (cR_plain L)),(freeL_plain (cB_plain B)),(freeL_plain (cI_plain W)),rfl,rfl,⟨rfl,rfl,rfl,rfl,A,L,B,W,rfl,rfl,rfl,rfl,rfl,rfl,rfl,rfl⟩,hz,(isBdK_lamp hz),⟨⟨by omega,by omega⟩,⟨by omega,by omega⟩⟩,trivial⟩ rfl)
theorem con_8 (ya yl yf yw:Value) (A:List Int) (L:List (Int×Int)) (B:List Bool) (W:List Int) (p q:Int) (hf:fdAll (cB B) (cR L) A.length=none) (hq4_1:(q30_29 A B L W)=true) (hq6_1:(ltI p 0)=false) (hq6_2:(ltI q p)=false) (hq6_3:(ltI 1000 q)=false) (w:World):Goes Try.prog 36 conK7 ((q30_12 A B L W p q ya yf yl yw)) w (q30_4 A B L W p q w):=by
 obtain ⟨hcl_A,hcl_L,hcl_B,hcl_W⟩:=hcZ30 A B L W
 have ghq4_1:=eqI_true hq4_1
 have hz:=ghq4_1
 have ghq6_1:=ltI_false hq6_1
 have ghq6_2:=ltI_false hq6_2
 have ghq6_3:=ltI_false hq6_3
 refine goes_spineQ (ι:=Unit) (T:=fun _:Unit=>(q30_1 A B L W p q ya yf yl yw)) (R:=fun _:Unit=>True) (by kernel_rfl) (goes_rg (by kernel_rfl) (goesL_toldC Try.checked.mixed (known_bn) 200 1 (T1:=(q30_6 A B L W p q ya yf yl yw)) (e:=.normal) (ps:=[]) [.go] (by kernel_rfl) (by kernel_rfl) (by kernel_rfl) trivial (goesL_callT (ι:=Unit) (T1:=(q30_8 A B L W p q ya yf yl yw)) (T2:=(fun _:Unit=>(q30_2 A B L W p q ya yf yl yw))) (T3:=fun _:Unit=>⟨[(2,(.ptr 0 0)),(3,(.ptr 1 0)),(4,(.ptr 2 0)),(22,(.tup [(.agg (q30_17 A B L W ya yf yl yw)),(.v (.int .i64 (.ofNat 0)))]))],[],7,[(q30_20 A B L W ya yf yl yw),(1,(.cells [(.v (.int .i64 (p))),(.v (.int .i64 (q)))] 40)),q30_26]⟩) (R:=(fun _:Unit=>True)) (k:=62) (szk:=15) (by kernel_rfl) Try.func62 (by kernel_rfl) (by kernel_rfl) (by kernel_rfl) (by kernel_rfl) (fun v eb ec=>conc6_2 ya yl yf yw A L B W p q hf hq4_1 hq6_1 hq6_2 hq6_3 v eb ec) (fun _ _=>by kernel_rfl) (fun _ hR=>goesL_toldC Try.checked.mixed (known_bn) 200 6 (T1:=(q30_1 A B L W p q ya yf yl yw)) (e:=.normal) (ps:=[]) [.go,.go,.go,.go,.go,.go] (by kernel_rfl) (by kernel_rfl) (by kernel_rfl) trivial (goesL_endQ () hR (by kernel_rfl) (holds_view (by kernel_rfl) (by kernel_rfl) (by kernel_rfl) (by kernel_rfl))))))) (fun _ hxR=>con_10 ya yl yf yw A L B W p q hf hq4_1 hq6_1 hq6_2 hq6_3  w)
theorem con_6 (ya yl yf yw:Value) (A:List Int) (L:List (Int×Int)) (B:List Bool) (W:List Int) (p q:Int) (hf:fdAll (cB B) (cR L) A.length=none) (hq4_1:(q30_29 A B L W)=true) (w:World):Goes Try.prog 36 conK5 ((q30_11 A B L W p q ya yf yl yw)) w (q30_4 A B L W p q w):=by
 obtain ⟨hcl_A,hcl_L,hcl_B,hcl_W⟩:=hcZ30 A B L W
 have ghq4_1:=eqI_true hq4_1
 have hz:=ghq4_1
 rcases Bool.eq_false_or_eq_true (ltI p 0) with hq6_1 | hq6_1
 ·skip
  have ghq6_1:=ltI_true hq6_1
  exact goes_eqR (r:=.tuple #[.agg #[(.int .i64 0),(.int .i64 0)],(.int .i64 3)]) (by have q3:shE p q=3:=if_neg (fun c9=>by omega); rw [q3,spE_arg hz (by decide),spV_arg (by decide),spV_arg (by decide)]) (goes_out Try.checked.mixed (known_bn) 200 (v:=(.tup [(.agg [(.v (.int .i64 (.ofNat 0))),(.v (.int .i64 (.ofNat 0)))]),(.v (.int .i64 (.ofNat 3)))])) (ps:=[ltI 0 ((1:Nat):Int)=true,ltI p 0=true,true=true,true=true,true=true,true=true,true=true,true=true,true=true,true=true,true=true,(!false)=true]) [.go,.go,.go,.go,.go,.go,.go,.b true,.go,.go,.go,.go,.go,.go,.go,.go,.b true,.b true,.b true,.b true,.b true,.go,.go,.b true,.b true,.b true,.b true,.go,.b true,.go,.go,.b true,.go,.go,.go] (by kernel_rfl) (by kernel_rfl) ⟨rfl,hq6_1,rfl,rfl,rfl,rfl,rfl,rfl,rfl,rfl,rfl,rfl,trivial⟩ rfl)
 ·skip
  have ghq6_1:=ltI_false hq6_1
  rcases Bool.eq_false_or_eq_true (ltI q p) with hq6_2 | hq6_2
  ·skip
   have ghq6_2:=ltI_true hq6_2
   exact goes_eqR (r:=.tuple #[.agg #[(.int .i64 0),(.int .i64 0)],(.int .i64 3)]) (by have q3:shE p q=3:=if_neg (fun c9=>by omega); rw [q3,spE_arg hz (by decide),spV_arg (by decide),spV_arg (by decide)]) (goes_out Try.checked.mixed (known_bn) 200 (v:=(.tup [(.agg [(.v (.int .i64 (.ofNat 0))),(.v (.int .i64 (.ofNat 0)))]),(.v (.int .i64 (.ofNat 3)))])) (ps:=[ltI 0 ((1:Nat):Int)=true,ltI p 0=false,false=false,false=false,false=false,false=false,ltI q p=true,true=true,true=true,true=true,true=true,(!false)=true]) [.go,.go,.go,.go,.go,.go,.go,.b true,.go,.go,.go,.go,.go,.go,.go,.go,.b false,.go,.b false,.go,.b false,.go,.b false,.go,.b false,.go,.go,.go,.b true,.b true,.b true,.b true,.go,.b true,.go,.go,.b true,.go,.go,.go] (by kernel_rfl) (by kernel_rfl) ⟨rfl,hq6_1,rfl,rfl,rfl,rfl,hq6_2,rfl,rfl,rfl,rfl,rfl,trivial⟩ rfl)
  ·skip
   have ghq6_2:=ltI_false hq6_2
   rcases Bool.eq_false_or_eq_true (ltI 1000 q) with hq6_3 | hq6_3
   ·skip
    have ghq6_3:=ltI_true hq6_3
    exact goes_eqR (r:=.tuple #[.agg #[(.int .i64 0),(.int .i64 0)],(.int .i64 3)]) (by have q3:shE p q=3:=if_neg (fun c9=>by omega); rw [q3,spE_arg hz (by decide),spV_arg (by decide),spV_arg (by decide)]) (goes_out Try.checked.mixed (known_bn) 200 (v:=(.tup [(.agg [(.v (.int .i64 (.ofNat 0))),(.v (.int .i64 (.ofNat 0)))]),(.v (.int .i64 (.ofNat 3)))])) (ps:=[ltI 0 ((1:Nat):Int)=true,ltI p 0=false,false=false,false=false,false=false,false=false,ltI q p=false,false=false,false=false,false=false,ltI 1000 q=true,(!false)=true]) [.go,.go,.go,.go,.go,.go,.go,.b true,.go,.go,.go,.go,.go,.go,.go,.go,.b false,.go,.b false,.go,.b false,.go,.b false,.go,.b false,.go,.go,.go,.b false,.go,.b false,.go,.b false,.go,.b false,.go,.go,.b true,.go,.go,.b true,.go,.go,.go] (by kernel_rfl) (by kernel_rfl) ⟨rfl,hq6_1,rfl,rfl,rfl,rfl,hq6_2,rfl,rfl,rfl,hq6_3,rfl,trivial⟩ rfl)
   ·skip
    have ghq6_3:=ltI_false hq6_3
    exact goes_spine (T':=(q30_12 A B L W p q ya yf yl yw)) (by kernel_rfl) (goes_told Try.checked.mixed (known_bn) 200 (T':=(q30_12 A B L W p q ya yf yl yw)) (e:=.normal) (ps:=[ltI 0 ((1:Nat):Int)=true,ltI p 0=false,false=false,false=false,false=false,false=false,ltI q p=false,false=false,false=false,false=false,ltI 1000 q=false,inR IntKind.i64 (0 + 1),ltI (0 + 1) ((1:Nat):Int)=false,(!true)=false]) [.go,.go,.go,.go,.go,.go,.go,.b true,.go,.go,.go,.go,.go,.go,.go,.go,.b false,.go,.b false,.go,.b false,.go,.b false,.go,.b false,.go,.go,.go,.b false,.go,.b false,.go,.b false,.go,.b false,.go,.go,.b false,.go,.go,.go,.b false,.go,.go,.b false] (by kernel_rfl) (by kernel_rfl) ⟨rfl,hq6_1,rfl,rfl,rfl,rfl,hq6_2,rfl,rfl,rfl,hq6_3,(by show -9223372036854775808≤_∧_≤9223372036854775807; constructor <;> omega),rfl,rfl,trivial⟩ rfl) (con_8 ya yl yf yw A L B W p q hf hq4_1 hq6_1 hq6_2 hq6_3 w)
theorem con_4 (ya yl yf yw:Value) (A:List Int) (L:List (Int×Int)) (B:List Bool) (W:List Int) (p q:Int) (hf:fdAll (cB B) (cR L) A.length=none) (w:World):Goes Try.prog 36 conK3 ((q30_11 A B L W p q ya yf yl yw)) w (OutR Try.prog Try.f31 36 (.tuple #[.agg #[.int .i64 (spV (cI A) A.length (cR L) L.length (cB B) B.length (cI W) W.length (shE p q) (sumG (cI W) (fun k=>((rdB (cI A) A.length (cR L) (cB B) W.length W.length).1 k * p).tdiv 1000) W.length)),.int .i64 (spV (cI A) A.length (cR L) L.length (cB B) B.length (cI W) W.length (shE p q) (sumG (cI W) (fun k=>((rdB (cI A) A.length (cR L) (cB B) W.length W.length).2 k * q).tdiv 1000) W.length))],.int .i64 (spE (cI A) A.length (cR L) L.length (cB B) B.length (cI W) W.length (shE p q))]) w):=by
 obtain ⟨hcl_A,hcl_L,hcl_B,hcl_W⟩:=hcZ30 A B L W
 rcases Bool.eq_false_or_eq_true (eqI (clE (cI A) A.length (cR L) L.length B.length (cI W) W.length) 0) with hq4_1 | hq4_1
 ·skip
  have ghq4_1:=eqI_true hq4_1
  have hz:=ghq4_1
  exact goes_spine (T':=(q30_11 A B L W p q ya yf yl yw)) (by kernel_rfl) (goes_told Try.checked.mixed (known_bn) 200 (T':=(q30_11 A B L W p q ya yf yl yw)) (e:=.normal) (ps:=[IsLampK 1 2 1 1 (cI A) A.length (cR L) L.length (cB B) B.length (cI W) W.length,(!eqI (clE (cI A) A.length (cR L) L.length B.length (cI W) W.length) 0)=false]) [.go,.go,.go,.go,.b false] (by kernel_rfl) (by kernel_rfl) ⟨⟨rfl,rfl,rfl,rfl,A,L,B,W,rfl,rfl,rfl,rfl,rfl,rfl,rfl,rfl⟩,(by rw [hq4_1]; rfl),trivial⟩ rfl) (con_6 ya yl yf yw A L B W p q hf hq4_1 w)
 ·skip
  have ghq4_1:=eqI_false hq4_1
  have hnz:=ghq4_1
  exact goes_eqR (r:=.tuple #[.agg #[(.int .i64 0),(.int .i64 0)],(.int .i64 (clE (cI A) A.length (cR L) L.length B.length (cI W) W.length))]) (by rw [spE_lamp hnz,spV_lamp hnz,spV_lamp hnz]) (goes_out Try.checked.mixed (known_bn) 200 (v:=(.tup [(.agg [(.v (.int .i64 (.ofNat 0))),(.v (.int .i64 (.ofNat 0)))]),(.v (.int .i64 (clE (cI A) A.length (cR L) L.length B.length (cI W) W.length)))])) (ps:=[IsLampK 1 2 1 1 (cI A) A.length (cR L) L.length (cB B) B.length (cI W) W.length,(!eqI (clE (cI A) A.length (cR L) L.length B.length (cI W) W.length) 0)=true]) [.go,.go,.go,.go,.b true,.go,.go,.go,.go] (by kernel_rfl) (by kernel_rfl) ⟨⟨rfl,rfl,rfl,rfl,A,L,B,W,rfl,rfl,rfl,rfl,rfl,rfl,rfl,rfl⟩,(by rw [hq4_1]; rfl),trivial⟩ rfl)
theorem con_2 (ya yl yf yw:Value) (A:List Int) (L:List (Int×Int)) (B:List Bool) (W:List Int) (p q:Int) (hf:fdAll (cB B) (cR L) A.length=none) (w:World):Goes Try.prog 36 conK1 (⟨[(0,.agg (q30_25 A B L W ya yf yl yw)),(1,.agg [.v (.int .i64 p),.v (.int .i64 q)])],[],0,[]⟩) w (q30_4 A B L W p q w):=by
 obtain ⟨hcl_A,hcl_L,hcl_B,hcl_W⟩:=hcZ30 A B L W
 exact goes_spine (T':=(q30_11 A B L W p q ya yf yl yw)) (by kernel_rfl) (goes_told Try.checked.mixed (known_bn) 200 (T':=(q30_11 A B L W p q ya yf yl yw)) (e:=.normal) (ps:=[]) [.go,.go,.go,.go] (by kernel_rfl) (by kernel_rfl) trivial rfl) (con_4 ya yl yf yw A L B W p q hf w)
theorem con_g (ya yl yf yw:Value) (A:List Int) (L:List (Int×Int)) (B:List Bool) (W:List Int) (p q:Int) (hf:fdAll (cB B) (cR L) A.length=none):GivesA Try.prog 31 [.agg [.xl ya A.length 1 (cI A),.xl yl L.length 2 (cR L),.xl yf B.length 1 (cB B),.xl yw W.length 1 (cI W)],.agg [.v (.int .i64 p),.v (.int .i64 q)]] (.tuple #[.agg #[.int .i64 (spV (cI A) A.length (cR L) L.length (cB B) B.length (cI W) W.length (shE p q) (sumG (cI W) (fun k=>((rdB (cI A) A.length (cR L) (cB B) W.length W.length).1 k * p).tdiv 1000) W.length)),.int .i64 (spV (cI A) A.length (cR L) L.length (cB B) B.length (cI W) W.length (shE p q) (sumG (cI W) (fun k=>((rdB (cI A) A.length (cR L) (cB B) W.length W.length).2 k * q).tdiv 1000) W.length))],.int .i64 (spE (cI A) A.length (cR L) L.length (cB B) B.length (cI W) W.length (shE p q))]) :=
 givesA_parts 36 Try.func31 (by kernel_rfl) (by kernel_rfl) (by kernel_rfl) (fun w=>goes_less (by kernel_rfl) (by kernel_rfl) (by kernel_rfl) (by kernel_rfl) (con_2 ya yl yf yw A L B W p q hf w))
end
end Go.Proofs.Ytldekgkjofgacaa
