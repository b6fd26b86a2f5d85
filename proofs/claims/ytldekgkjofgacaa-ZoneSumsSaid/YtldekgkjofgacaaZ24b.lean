import Derived.Test.YtldekgkjofgacaaZ22
import Derived.Test.YtldekgkjofgacaaZ22b
set_option linter.all false
/- The oracle of cross; what it makes of cells. -/
namespace Go.Proofs.Ytldekgkjofgacaa
open Go Ev
noncomputable section
theorem swU_ext {op:Int→Int→Int} {f g:Nat→Int} {p:Nat} (h:∀ k,k < 91→f k=g k):∀ (t:Nat),p + t < 91→∀ k,k < 91→swU op f p t k=swU op g p t k
 | 0,_,k,hk=>h k hk
 | t + 1,ht,k,hk=>by
  unfold swU updI
  have ih:=swU_ext h (op:=op) (p:=p) t (by omega)
  rw [ih (p + t + 1) (by omega),ih (p + t) (by omega),ih k hk]
theorem swD_ext {op:Int→Int→Int} {f g:Nat→Int} {q:Nat} (h:∀ k,k < 91→f k=g k) (hq:q < 91):∀ (t:Nat),∀ k,k < 91→swD op f q t k=swD op g q t k
 | 0,k,hk=>h k hk
 | t + 1,k,hk=>by
  unfold swD updI
  have ih:=swD_ext h (op:=op) hq t
  rw [ih (q - t - 1) (by omega),ih (q - t) (by omega),ih k hk]
def crB (b:Bool) (p q:Nat) (x:(Nat→Int)×(Nat→Int)):(Nat→Int)×(Nat→Int):=match b with
 | true=>(swD max x.1 q (q - p),swU min x.2 p (q - p))
 | false=>(swU max x.1 p (q - p),swD min x.2 q (q - p))
def loF (c:List AV):Nat→Int:=fun j=>intAt c (4 + j)
def hiF (c:List AV):Nat→Int:=fun j=>intAt c (95 + j)
def crossL:List AV→Bool→Nat→Nat→List AV:=Classical.choose (⟨fun c b p q=>bdC (c.take 4) (crB b p q (loF c,hiF c)).1 (crB b p q (loF c,hiF c)).2,fun _ _ _ _=>rfl⟩:∃ g:List AV→Bool→Nat→Nat→List AV,∀ c b p q,g c b p q=bdC (c.take 4) (crB b p q (loF c,hiF c)).1 (crB b p q (loF c,hiF c)).2)
theorem crossL_eq (c:List AV) (b:Bool) (p q:Nat):crossL c b p q=bdC (c.take 4) (crB b p q (loF c,hiF c)).1 (crB b p q (loF c,hiF c)).2:=Classical.choose_spec (⟨fun c b p q=>bdC (c.take 4) (crB b p q (loF c,hiF c)).1 (crB b p q (loF c,hiF c)).2,fun _ _ _ _=>rfl⟩:∃ g:List AV→Bool→Nat→Nat→List AV,∀ c b p q,g c b p q=bdC (c.take 4) (crB b p q (loF c,hiF c)).1 (crB b p q (loF c,hiF c)).2) c b p q
theorem crB_ext {b:Bool} {p q:Nat} {x y:(Nat→Int)×(Nat→Int)} (h1:∀ k,k < 91→x.1 k=y.1 k) (h2:∀ k,k < 91→x.2 k=y.2 k) (hpq:p≤q) (hq:q < 91):∀ k,k < 91→(crB b p q x).1 k=(crB b p q y).1 k∧(crB b p q x).2 k=(crB b p q y).2 k:=fun k hk=>by
 unfold crB
 cases b with
 | true=>exact ⟨swD_ext h1 hq _ k hk,swU_ext h2 _ (by omega) k hk⟩
 | false=>exact ⟨swU_ext h1 _ (by omega) k hk,swD_ext h2 hq _ k hk⟩
theorem crossL_bd {l:List AV} (hl:l.length=4) (lo hi:Nat→Int) {b:Bool} {p q:Nat} (hpq:p≤q) (hq:q < 91):crossL (bdC l lo hi) b p q=bdC l (crB b p q (lo,hi)).1 (crB b p q (lo,hi)).2:=by
 rw [crossL_eq]
 have h1:∀ k,k < 91→loF (bdC l lo hi) k=lo k:=fun k hk=>bd_intLo hl rfl hk
 have h2:∀ k,k < 91→hiF (bdC l lo hi) k=hi k:=fun k hk=>bd_intHi hl rfl hk
 have ht:(bdC l lo hi).take 4=l:=by
  show (l ++ bdR lo hi).take 4=l
  rw [← hl,List.take_left]
 rw [ht]
 exact bdC_ext (fun k hk=>(crB_ext (x:=(loF (bdC l lo hi),hiF (bdC l lo hi))) (y:=(lo,hi)) h1 h2 hpq hq k hk).1) (fun k hk=>(crB_ext (x:=(loF (bdC l lo hi),hiF (bdC l lo hi))) (y:=(lo,hi)) h1 h2 hpq hq k hk).2)
def IsBd (c:List AV):Prop:=∃ l lo hi,l.length=4∧FreeL l∧c=bdC l lo hi
theorem free_bd {l:List AV} {lo hi:Nat→Int} (h:FreeL l):FreeB (.cells (bdC l lo hi) 95):=by
 rw [bdC_eq]
 exact freeB_cells (freeL_app h (freeL_app (freeL_plain (cI_plain _)) (freeL_plain (cI_plain _))))
def upV:Value→Option Bool
 | .int .i64 (.ofNat n)=>match Nat.beq n 1 with
  | true=>some true
  | false=>none
 | .int .i64 (.negSucc n)=>match Nat.beq n 0 with
  | true=>some false
  | false=>none
 | _=>none
def loE (b:Bool) (x y:Int):Nat:=match b with
 | true=>x.toNat
 | false=>y.toNat
def GapOK (b:Bool) (x y:Int):Prop:=0≤x∧0≤y∧x < 91∧y < 91∧(b=true→x≤y)∧(b=false→y≤x)
def crS:AB→List AV→Option ((AB×Value)×List Prop):=fun x rest =>
 match x with
 | .cells c t=>match rest with
  | [.agg [.v u,.v v,.v s]]=>match numV u,numV v,upV s with
   | some a,some b,some d=>some ((.cells (crossL c d (loE d a b) (loE d b a)) t,.tuple #[]),[t=95,IsBd c,GapOK d a b])
   | _,_,_=>none
  | _=>none
 | _=>none
def crO:OrcH:=wOrc 78 crS
theorem known_cr:Known pg (clsO crO):=known_w (fun x rest x' r ps h hp=>by
 unfold crS at h
 split at h
 ·split at h
  ·split at h
   ·rename_i a b d e1 e2 e3
    cases h
    obtain ⟨rfl,⟨l,lo,hi,hl,hf,rfl⟩,hg,-⟩:=hp
    rw [numV_eq e1,numV_eq e2]
    obtain ⟨g1,g2,g3,g4,g5,g6⟩:=hg
    obtain ⟨a,rfl⟩:=Int.eq_ofNat_of_zero_le g1
    obtain ⟨b,rfl⟩:=Int.eq_ofNat_of_zero_le g2
    unfold upV at e3
    split at e3
    ·split at e3
     ·rename_i hn
      cases e3
      have:=Nat.eq_of_beq_eq_true hn
      subst this
      have hab:a≤b:=by have:=g5 rfl; omega
      rw [show loE true (a:Int) (b:Int)=a from rfl,show loE true (b:Int) (a:Int)=b from rfl,crossL_bd hl _ _ hab (by omega)]
      exact ⟨free_bd hf,free_bd hf,crossU_g l lo hi a b hl hab (by omega)⟩
     ·cases e3
    ·split at e3
     ·rename_i hn
      cases e3
      have:=Nat.eq_of_beq_eq_true hn
      subst this
      have hab:b≤a:=by have:=g6 rfl; omega
      rw [show loE false (a:Int) (b:Int)=b from rfl,show loE false (b:Int) (a:Int)=a from rfl,crossL_bd hl _ _ hab (by omega)]
      exact ⟨free_bd hf,free_bd hf,crossD_g l lo hi b a hl hab (by omega)⟩
     ·cases e3
    ·cases e3
   ·cases h
  ·cases h
 ·cases h)
def chT (f g:Nat→Int):Nat→Nat→Bool
 | 0,_=>true
 | n + 1,i=>eqI (f i) (g i) && chT f g n (i + 1)
theorem chT_iff (f g:Nat→Int):∀ n i:Nat,chT f g n i=true↔∀ k,i≤k→k < i + n→f k=g k
 | 0,i=>⟨fun _ k h1 h2=>by omega,fun _=>rfl⟩
 | n + 1,i=>by
  unfold chT
  rw [Bool.and_eq_true,eqI_iff,decide_eq_true_eq,chT_iff f g n (i + 1)]
  refine ⟨fun ⟨h1,h2⟩ k q1 q2=>?_,fun h=>⟨h i (Nat.le_refl _) (by omega),fun k q1 q2=>h k (by omega) (by omega)⟩⟩
  by_cases e:k=i
  ·subst e; exact h1
  ·exact h2 k (by omega) (by omega)
theorem isBd_lamp {ya yl yf yw:Value} {A:List Int} {L:PR} {B:List Bool} {W:List Int} (lo hi:Nat→Int):IsBd (bdT [.xl ya A.length 1 (cI A),.xl yl L.length 2 (cR L),.xl yf B.length 1 (cB B),.xl yw W.length 1 (cI W)] lo hi) :=
 ⟨_,lo,hi,rfl,freeL_cons (freeL_xl (freeL_plain (cI_plain A))) (freeL_cons (freeL_xl (freeL_plain (cR_plain L))) (freeL_cons (freeL_xl (freeL_plain (cB_plain B))) (freeL_cons (freeL_xl (freeL_plain (cI_plain W))) freeL_nil))),bdT_eq⟩
theorem cross_bdT {l:List AV} (hl:l.length=4) (x:(Nat→Int)×(Nat→Int)) {b:Bool} {p q:Nat} (hpq:p≤q) (hq:q < 91):crossL (bdT l x.1 x.2) b p q=bdT l (crB b p q x).1 (crB b p q x).2:=by
 rw [bdT_eq,bdT_eq,crossL_bd hl _ _ hpq hq]
theorem bdT_ext {l:List AV} {lo hi lo' hi':Nat→Int} (h1:∀ k,k < 91→lo k=lo' k) (h2:∀ k,k < 91→hi k=hi' k):bdT l lo hi=bdT l lo' hi':=by
 rw [bdT_eq,bdT_eq]; exact bdC_ext h1 h2
theorem cross_step {l:List AV} (hl:l.length=4) {x:(Nat→Int)×(Nat→Int)} {b:Bool} {u v:Int} {p q:Nat} (hu:loE b u v=p) (hv:loE b v u=q) (hpq:p≤q) (hq:q < 91):crossL (bdT l x.1 x.2) b (loE b u v) (loE b v u)=bdT l (crB b p q x).1 (crB b p q x).2:=by
 rw [hu,hv]; exact cross_bdT hl x hpq hq
end
end Go.Proofs.Ytldekgkjofgacaa
