import Derived.Test.YtldekgkjofgacaaZ28
import Derived.Test.YtldekgkjofgacaaZ17
set_option linter.all false
/- The oracle of flux where bounds tell the lights. -/
namespace Go.Proofs.Ytldekgkjofgacaa
open Go Ev
noncomputable section
def isP (i:Nat):AV→Bool
 | .ptr b o=>match Nat.beq b i with
  | true=>Nat.beq o 0
  | false=>false
 | _=>false
theorem isP_ok {i:Nat} {v:AV} (h:isP i v=true):v = .ptr i 0:=by
 unfold isP at h
 split at h
 ·split at h
  ·rename_i h1
   rw [Nat.eq_of_beq_eq_true h1,Nat.eq_of_beq_eq_true h]
  ·cases h
 ·cases h
def IsBdK (l:List AV) (c:List AV):Prop:=∃ lo hi,c=bdC l lo hi∧(∀ k,k < 91→0≤lo k∧lo k≤200)∧(∀ k,k < 91→0≤hi k∧hi k≤200)
def IsShare (p q:Int):Prop:=(0≤p∧p≤1000)∧(0≤q∧q≤1000)
def flS:List AV→List AB→Option (Value×List Prop):=fun args xs =>
 match args with
 | [.agg [.xl ya na k1 ca,.xl yl nl k2 cl,.xl yf nf k3 cf,.xl yw nw k4 cw],.fn (.func f) l m]=>match xs with
  | [.cells c t]=>match l,m with
   | [a],[]=>match isP 0 a with
    | true=>match Nat.beq f 66 with
     | true=>some (.int .i64 (sumG cw (loF c) nw),[IsT95 t,IsLampK k1 k2 k3 k4 ca na cl nl cf nf cw nw,clE ca na cl nl nf cw nw=0,IsBdK [.xl ya na k1 ca,.xl yl nl k2 cl,.xl yf nf k3 cf,.xl yw nw k4 cw] c])
     | false=>match Nat.beq f 68 with
      | true=>some (.int .i64 (sumG cw (hiF c) nw),[IsT95 t,IsLampK k1 k2 k3 k4 ca na cl nl cf nf cw nw,clE ca na cl nl nf cw nw=0,IsBdK [.xl ya na k1 ca,.xl yl nl k2 cl,.xl yf nf k3 cf,.xl yw nw k4 cw] c])
      | false=>none
    | false=>none
   | _,_=>none
  | _=>none
 | _=>none
theorem nw_le {A W:List Int} {L:PR} {B:List Bool} (hz:ZK A L B W):W.length≤91:=by
 obtain ⟨hn,ha,he,hl,hw⟩:=clE_zero hz
 exact (deg_bd hn ha he 0 (by omega)).2.2.1
theorem loF_bd {l:List AV} (hl:l.length=4) {lo hi:Nat→Int} {k:Nat} (h:k < 91):loF (bdC l lo hi) k=lo k:=bd_intLo hl rfl h
theorem hiF_bd {l:List AV} (hl:l.length=4) {lo hi:Nat→Int} {k:Nat} (h:k < 91):hiF (bdC l lo hi) k=hi k:=bd_intHi hl rfl h
def flO:OrcH:=rOrc 46 flS
theorem known_fl:Known pg (clsO flO):=known_r (fun args xs r ps h hp=>by
 unfold flS at h
 split at h
 ·rename_i ya na k1 ca yl nl k2 cl yf nf k3 cf yw nw k4 cw f l m
  split at h
  ·rename_i c t
   split at h
   ·rename_i a
    split at h
    ·rename_i ha
     obtain rfl:=isP_ok ha
     split at h
     ·rename_i hf
      obtain rfl:=Nat.eq_of_beq_eq_true hf
      cases h
      obtain ⟨ht,⟨rfl,rfl,rfl,rfl,A,L,B,W,rfl,rfl,rfl,rfl,rfl,rfl,rfl,rfl⟩,hz,⟨lo,hi,rfl,hlo,hhi⟩,-⟩:=hp
      cases ht
      have hg:=fl_g ya yl yf yw A L B W lo hi hz hlo hhi
      rw [bdT_eq] at hg
      refine ⟨fun x hx=>by rw [List.mem_singleton] at hx; subst hx; exact ⟨free_bd free_lamp,detB_cells⟩,?_⟩
      rw [sumG_ext (f:=loF _) (g:=lo) _ (fun k hk=>loF_bd rfl (by have:=nw_le hz; omega))]
      exact hg
     ·split at h
      ·rename_i hf
       obtain rfl:=Nat.eq_of_beq_eq_true hf
       cases h
       obtain ⟨ht,⟨rfl,rfl,rfl,rfl,A,L,B,W,rfl,rfl,rfl,rfl,rfl,rfl,rfl,rfl⟩,hz,⟨lo,hi,rfl,hlo,hhi⟩,-⟩:=hp
       cases ht
       have hg:=fh_g ya yl yf yw A L B W lo hi hz hlo hhi
       rw [bdT_eq] at hg
       refine ⟨fun x hx=>by rw [List.mem_singleton] at hx; subst hx; exact ⟨free_bd free_lamp,detB_cells⟩,?_⟩
       rw [sumG_ext (f:=hiF _) (g:=hi) _ (fun k hk=>hiF_bd rfl (by have:=nw_le hz; omega))]
       exact hg
      ·cases h
    ·cases h
   ·cases h
  ·cases h
 ·cases h)
def bnO:OrcH:=orO odbO (orO opO (orO seO flO))
theorem known_bn:Known pg (clsO bnO):=known_or known_odb (known_or known_op (known_or known_se known_fl))
section
variable (A : List AV) (n : Nat) (L : List AV) (nl : Nat) (B : List AV) (nf : Nat) (W : List AV) (nw : Nat)
open Classical in
def spE (e:Int):Int:=if clE A n L nl nf W nw=0 then (if e=0 then (if fdAll B L n=none then 0 else 21) else e) else clE A n L nl nf W nw
open Classical in
def spV (e x:Int):Int:=if clE A n L nl nf W nw=0∧e=0∧fdAll B L n=none then x else 0
variable {A n L nl B nf W nw}
theorem spE_lamp {e:Int} (h:¬ clE A n L nl nf W nw=0):spE A n L nl B nf W nw e=clE A n L nl nf W nw:=if_neg h
theorem spV_lamp {e x:Int} (h:¬ clE A n L nl nf W nw=0):spV A n L nl B nf W nw e x=0:=if_neg (fun q=>h q.1)
theorem spE_arg {e:Int} (h:clE A n L nl nf W nw=0) (he:¬ e=0):spE A n L nl B nf W nw e=e:=by unfold spE; rw [if_pos h,if_neg he]
theorem spV_arg {e x:Int} (he:¬ e=0):spV A n L nl B nf W nw e x=0:=if_neg (fun q=>he q.2.1)
theorem spE_doubt (h:clE A n L nl nf W nw=0) (hf:¬ fdAll B L n=none):spE A n L nl B nf W nw 0=21:=by unfold spE; rw [if_pos h,if_pos rfl,if_neg hf]
theorem spV_doubt {e x:Int} (hf:¬ fdAll B L n=none):spV A n L nl B nf W nw e x=0:=if_neg (fun q=>hf q.2.2)
theorem spE_ok (h:clE A n L nl nf W nw=0) (hf:fdAll B L n=none):spE A n L nl B nf W nw 0=0:=by unfold spE; rw [if_pos h,if_pos rfl,if_pos hf]
theorem spV_ok {x:Int} (h:clE A n L nl nf W nw=0) (hf:fdAll B L n=none):spV A n L nl B nf W nw 0 x=x:=if_pos ⟨h,rfl,hf⟩
end
open Classical in
def dgE (A:List AV) (n:Nat) (d:Int):Int:=if intAt A (0 * 1)≤d∧d≤intAt A ((n - 1) * 1) then 0 else 3
theorem sumG_lo {l:List AV} (hl:l.length=4) {W:List AV} {lo hi:Nat→Int} {n:Nat} (h:n≤91):sumG W (loF (bdT l lo hi)) n=sumG W lo n:=sumG_ext n (fun k hk=>by rw [bdT_eq]; exact loF_bd hl (by omega))
theorem sumG_hi {l:List AV} (hl:l.length=4) {W:List AV} {lo hi:Nat→Int} {n:Nat} (h:n≤91):sumG W (hiF (bdT l lo hi)) n=sumG W hi n:=sumG_ext n (fun k hk=>by rw [bdT_eq]; exact hiF_bd hl (by omega))
section
variable {A W : List Int} {L : PR} {B : List Bool}
theorem rdB_rng (hz:ZK A L B W):RngX (rdB (cI A) A.length (cR L) (cB B) W.length W.length):=by
 obtain ⟨hn,ha,he,hl,hw⟩:=clE_zero hz
 -- it is what settles
 have:∃ i,zG (cI A) (cR L) (cB B) A.length i=true:=by
  refine Classical.byContradiction fun hno=>?_
  have:=zG_bound (B:=cB B) hn ha he hl 40000 (fun j _=>by
   cases h:zG (cI A) (cR L) (cB B) A.length j with
   | true=>exact absurd ⟨j,h⟩ hno
   | false=>rfl)
  omega
 obtain ⟨i,hi⟩:=this
 have e:=zG_end hn ha he hl i hi
 obtain ⟨-,-,ho,hr,-⟩:=rnG_known (B:=cB B) hn ha he hl i
 obtain ⟨i1,i2⟩:=init_known hn ha he hl
 intro k
 have nw:=(deg_lt' hn ha he (i:=0) (by omega)).2.1
 by_cases hk:k < 91
 ·have a:=hr k; have b:=e k hk; omega
 ·have o2:=rdB_out (A:=cI A) (L:=cR L) (B:=cB B) (n:=A.length) (m:=W.length) W.length i1 k (by omega)
  omega
theorem isBdK_lamp {ya yl yf yw:Value} (hz:ZK A L B W):IsBdK [.xl ya A.length 1 (cI A),.xl yl L.length 2 (cR L),.xl yf B.length 1 (cB B),.xl yw W.length 1 (cI W)] (bdT [.xl ya A.length 1 (cI A),.xl yl L.length 2 (cR L),.xl yf B.length 1 (cB B),.xl yw W.length 1 (cI W)] (rdB (cI A) A.length (cR L) (cB B) W.length W.length).1 (rdB (cI A) A.length (cR L) (cB B) W.length W.length).2) :=
 ⟨_,_,bdT_eq,fun k _=>⟨(rdB_rng hz k).1,(rdB_rng hz k).2.1⟩,fun k _=>(rdB_rng hz k).2.2⟩
end
end
end Go.Proofs.Ytldekgkjofgacaa
