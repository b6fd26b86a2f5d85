import Derived.Test.YtldekgkjofgacaaZ14
set_option linter.all false
/- Bounds of the lights, drawn in degree by degree; a lamp c -/
namespace Go.Proofs.Ytldekgkjofgacaa
open Go Ev
noncomputable section
def updI (f:Nat→Int) (i:Nat) (x:Int):Nat→Int:=fun j=>if j=i then x else f j
theorem updI_same (f:Nat→Int) (i:Nat) (x:Int):updI f i x i=x:=if_pos rfl
theorem updI_ne (f:Nat→Int) {i j:Nat} (x:Int) (h:j≠i):updI f i x j=f j:=if_neg h
def loA (A L:List AV):Nat→Nat→Int
 | 0=>fun _=>0
 | i + 1=>updI (loA A L i) (degA A i).toNat (intAt L (i * 2 + 0))
def hiA (A L:List AV):Nat→Nat→Int
 | 0=>fun _=>200
 | i + 1=>updI (hiA A L i) (degA A i).toNat (intAt L (i * 2 + 1))
def stB (b:Bool) (k:Nat) (p:(Nat→Int)×(Nat→Int)):(Nat→Int)×(Nat→Int):=match b with
 | true=>(updI p.1 k (max (p.1 k) (p.1 (k + 1))),updI p.2 (k + 1) (min (p.2 (k + 1)) (p.2 k)))
 | false=>(updI p.1 (k + 1) (max (p.1 (k + 1)) (p.1 k)),updI p.2 k (min (p.2 k) (p.2 (k + 1))))
def faB (A:List AV) (n:Nat) (B:List AV) (k:Nat):Bool:=boolAt B (gapF A (intAt A (0 * 1) + ((k + 1:Nat):Int)) n 0 * 1)
def swB (A:List AV) (n:Nat) (B:List AV) (p:(Nat→Int)×(Nat→Int)):Nat→(Nat→Int)×(Nat→Int)
 | 0=>p
 | k + 1=>stB (faB A n B k) k (swB A n B p k)
def rdB (A:List AV) (n:Nat) (L B:List AV) (m:Nat):Nat→(Nat→Int)×(Nat→Int)
 | 0=>(loA A L n,hiA A L n)
 | r + 1=>swB A n B (rdB A n L B m r) (m - 1)
def dtd (A:List AV) (n:Nat) (L B:List AV) (m:Nat):Prop:=∃ k,k < m∧(rdB A n L B m m).2 k < (rdB A n L B m m).1 k
def upB (F:Nat→Bool) (p q:Nat):Prop:=(p≤q∧∀ k,p≤k→k < q→F k=false)∨(q≤p∧∀ k,q≤k→k < p→F k=true)
section
variable {F : Nat → Bool} {p q k : Nat}
theorem upB_refl (p:Nat):upB F p p:=.inl ⟨Nat.le_refl _,fun k h1 h2=>by omega⟩
theorem upB_right (h:upB F p k) (hf:F k=false):upB F p (k + 1):=by
 rcases h with ⟨h1,h2⟩ | ⟨h1,h2⟩
 ·exact .inl ⟨by omega,fun j q1 q2=>by by_cases e:j < k; exact h2 j q1 e; (rw [show j=k by omega]; exact hf)⟩
 ·by_cases e:k=p
  ·subst e; exact .inl ⟨by omega,fun j q1 q2=>by rw [show j=k by omega]; exact hf⟩
  ·have:=h2 k (Nat.le_refl _) (by omega); rw [hf] at this; cases this
theorem upB_left (h:upB F p (k + 1)) (hf:F k=true):upB F p k:=by
 rcases h with ⟨h1,h2⟩ | ⟨h1,h2⟩
 ·by_cases e:p=k + 1
  ·subst e; exact .inr ⟨by omega,fun j q1 q2=>by rw [show j=k by omega]; exact hf⟩
  ·have:=h2 k (by omega) (by omega); rw [hf] at this; cases this
 ·exact .inr ⟨by omega,fun j q1 q2=>by by_cases e:j=k; (rw [e]; exact hf); exact h2 j (by omega) q2⟩
theorem upB_right' (h:upB F k q) (hf:F k=true):upB F (k + 1) q:=by
 rcases h with ⟨h1,h2⟩ | ⟨h1,h2⟩
 ·by_cases e:k=q
  ·subst e; exact .inr ⟨by omega,fun j q1 q2=>by rw [show j=k by omega]; exact hf⟩
  ·have:=h2 k (Nat.le_refl _) (by omega); rw [hf] at this; cases this
 ·exact .inr ⟨by omega,fun j q1 q2=>by by_cases e:j < k; exact h2 j q1 e; (rw [show j=k by omega]; exact hf)⟩
theorem upB_left' (h:upB F (k + 1) q) (hf:F k=false):upB F k q:=by
 rcases h with ⟨h1,h2⟩ | ⟨h1,h2⟩
 ·exact .inl ⟨by omega,fun j q1 q2=>by by_cases e:j=k; (rw [e]; exact hf); exact h2 j (by omega) q2⟩
 ·by_cases e:q=k + 1
  ·subst e; exact .inl ⟨by omega,fun j q1 q2=>by rw [show j=k by omega]; exact hf⟩
  ·have:=h2 k (by omega) (by omega); rw [hf] at this; cases this
theorem upB_trans {r:Nat} (h:upB F p k) (h2:upB F k r):upB F p r:=by
 rcases h with ⟨a1,a2⟩ | ⟨a1,a2⟩ <;> rcases h2 with ⟨b1,b2⟩ | ⟨b1,b2⟩
 ·exact .inl ⟨by omega,fun j q1 q2=>by by_cases e:j < k; exact a2 j q1 e; exact b2 j (by omega) q2⟩
 ·by_cases e1:p=k
  ·subst e1; exact .inr ⟨b1,b2⟩
  ·by_cases e2:r=k
   ·subst e2; exact .inl ⟨a1,a2⟩
   ·have x:=a2 (k - 1) (by omega) (by omega)
    have y:=b2 (k - 1) (by omega) (by omega)
    rw [x] at y; cases y
 ·by_cases e1:p=k
  ·subst e1; exact .inl ⟨b1,b2⟩
  ·by_cases e2:r=k
   ·subst e2; exact .inr ⟨a1,a2⟩
   ·have x:=a2 k (Nat.le_refl _) (by omega)
    have y:=b2 k (Nat.le_refl _) (by omega)
    rw [x] at y; cases y
 ·exact .inr ⟨by omega,fun j q1 q2=>by by_cases e:k≤j; exact a2 j e q2; exact b2 j q1 (by omega)⟩
end
def LoOK (F:Nat→Bool) (A:List AV) (n:Nat) (L:List AV) (f:Nat→Int) (m:Nat):Prop:=∀ k,k < m→f k=0∨∃ i,i < n∧f k=intAt L (i * 2 + 0)∧upB F (degA A i).toNat k
def HiOK (F:Nat→Bool) (A:List AV) (n:Nat) (L:List AV) (f:Nat→Int) (m:Nat):Prop:=∀ k,k < m→f k=200∨∃ i,i < n∧f k=intAt L (i * 2 + 1)∧upB F k (degA A i).toNat
theorem loA_ok {F:Nat→Bool} {A:List AV} {n:Nat} {L:List AV} {m:Nat}:∀ {i:Nat},i≤n→LoOK F A n L (loA A L i) m
 | 0,_=>fun k hk=>.inl rfl
 | i + 1,hi=>fun k hk=>by
  unfold loA
  by_cases e:k=(degA A i).toNat
  ·subst e; exact .inr ⟨i,by omega,updI_same _ _ _,upB_refl _⟩
  ·rw [updI_ne _ _ e]; exact loA_ok (by omega) k hk
theorem hiA_ok {F:Nat→Bool} {A:List AV} {n:Nat} {L:List AV} {m:Nat}:∀ {i:Nat},i≤n→HiOK F A n L (hiA A L i) m
 | 0,_=>fun k hk=>.inl rfl
 | i + 1,hi=>fun k hk=>by
  unfold hiA
  by_cases e:k=(degA A i).toNat
  ·subst e; exact .inr ⟨i,by omega,updI_same _ _ _,upB_refl _⟩
  ·rw [updI_ne _ _ e]; exact hiA_ok (by omega) k hk
theorem max_or (a b:Int):max a b=a∨max a b=b:=by omega
theorem min_or (a b:Int):min a b=a∨min a b=b:=by omega
theorem stB_ok {F:Nat→Bool} {A:List AV} {n:Nat} {L:List AV} {m k:Nat} {p:(Nat→Int)×(Nat→Int)} (h1:LoOK F A n L p.1 m) (h2:HiOK F A n L p.2 m) (hk:k + 1 < m):LoOK F A n L (stB (F k) k p).1 m∧HiOK F A n L (stB (F k) k p).2 m:=by
 unfold stB
 split
 ·rename_i hf
  refine ⟨fun j hj=>?_,fun j hj=>?_⟩
  ·by_cases e:j=k
   ·subst e
    show updI _ _ _ _=0∨∃ i,i < n∧updI _ _ _ _=_∧_
    rw [updI_same]
    rcases max_or (p.1 j) (p.1 (j + 1)) with q | q
    ·rw [q]; exact h1 j hj
    ·rw [q]
     rcases h1 (j + 1) hk with x | ⟨i,x1,x2,x3⟩
     ·exact .inl x
     ·exact .inr ⟨i,x1,x2,upB_left x3 hf⟩
   ·show updI _ _ _ _=0∨∃ i,i < n∧updI _ _ _ _=_∧_
    rw [updI_ne _ _ e]; exact h1 j hj
  ·by_cases e:j=k + 1
   ·subst e
    show updI _ _ _ _=200∨∃ i,i < n∧updI _ _ _ _=_∧_
    rw [updI_same]
    rcases min_or (p.2 (k + 1)) (p.2 k) with q | q
    ·rw [q]; exact h2 (k + 1) hj
    ·rw [q]
     rcases h2 k (by omega) with x | ⟨i,x1,x2,x3⟩
     ·exact .inl x
     ·exact .inr ⟨i,x1,x2,upB_right' x3 hf⟩
   ·show updI _ _ _ _=200∨∃ i,i < n∧updI _ _ _ _=_∧_
    rw [updI_ne _ _ e]; exact h2 j hj
 ·rename_i hf
  refine ⟨fun j hj=>?_,fun j hj=>?_⟩
  ·by_cases e:j=k + 1
   ·subst e
    show updI _ _ _ _=0∨∃ i,i < n∧updI _ _ _ _=_∧_
    rw [updI_same]
    rcases max_or (p.1 (k + 1)) (p.1 k) with q | q
    ·rw [q]; exact h1 (k + 1) hj
    ·rw [q]
     rcases h1 k (by omega) with x | ⟨i,x1,x2,x3⟩
     ·exact .inl x
     ·exact .inr ⟨i,x1,x2,upB_right x3 hf⟩
   ·show updI _ _ _ _=0∨∃ i,i < n∧updI _ _ _ _=_∧_
    rw [updI_ne _ _ e]; exact h1 j hj
  ·by_cases e:j=k
   ·subst e
    show updI _ _ _ _=200∨∃ i,i < n∧updI _ _ _ _=_∧_
    rw [updI_same]
    rcases min_or (p.2 j) (p.2 (j + 1)) with q | q
    ·rw [q]; exact h2 j hj
    ·rw [q]
     rcases h2 (j + 1) hk with x | ⟨i,x1,x2,x3⟩
     ·exact .inl x
     ·exact .inr ⟨i,x1,x2,upB_left' x3 hf⟩
   ·show updI _ _ _ _=200∨∃ i,i < n∧updI _ _ _ _=_∧_
    rw [updI_ne _ _ e]; exact h2 j hj
theorem swB_ok {A:List AV} {n:Nat} {L B:List AV} {m:Nat} {p:(Nat→Int)×(Nat→Int)} (h1:LoOK (faB A n B) A n L p.1 m) (h2:HiOK (faB A n B) A n L p.2 m):∀ {k:Nat},k < m→LoOK (faB A n B) A n L (swB A n B p k).1 m∧HiOK (faB A n B) A n L (swB A n B p k).2 m
 | 0,_=>⟨h1,h2⟩
 | k + 1,hk=>by
  obtain ⟨q1,q2⟩:=swB_ok h1 h2 (k:=k) (by omega)
  exact stB_ok q1 q2 hk
theorem rdB_ok {A:List AV} {n:Nat} {L B:List AV} {m:Nat} (hm:0 < m):∀ r:Nat,LoOK (faB A n B) A n L (rdB A n L B m r).1 m∧HiOK (faB A n B) A n L (rdB A n L B m r).2 m
 | 0=>⟨loA_ok (Nat.le_refl _),hiA_ok (Nat.le_refl _)⟩
 | r + 1=>by
  obtain ⟨q1,q2⟩:=rdB_ok hm r
  exact swB_ok q1 q2 (by omega)
theorem stB_le (b:Bool) (k:Nat) (p:(Nat→Int)×(Nat→Int)) (j:Nat):p.1 j≤(stB b k p).1 j∧(stB b k p).2 j≤p.2 j:=by
 unfold stB
 cases b with
 | true =>
  refine ⟨?_,?_⟩
  ·by_cases e:j=k
   ·subst e; show _≤updI _ _ _ _; rw [updI_same]; omega
   ·show _≤updI _ _ _ _; rw [updI_ne _ _ e]; omega
  ·by_cases e:j=k + 1
   ·subst e; show updI _ _ _ _≤_; rw [updI_same]; omega
   ·show updI _ _ _ _≤_; rw [updI_ne _ _ e]; omega
 | false =>
  refine ⟨?_,?_⟩
  ·by_cases e:j=k + 1
   ·subst e; show _≤updI _ _ _ _; rw [updI_same]; omega
   ·show _≤updI _ _ _ _; rw [updI_ne _ _ e]; omega
  ·by_cases e:j=k
   ·subst e; show updI _ _ _ _≤_; rw [updI_same]; omega
   ·show updI _ _ _ _≤_; rw [updI_ne _ _ e]; omega
theorem swB_le (A:List AV) (n:Nat) (B:List AV) (p:(Nat→Int)×(Nat→Int)) (j:Nat):∀ (k d:Nat),(swB A n B p k).1 j≤(swB A n B p (k + d)).1 j∧(swB A n B p (k + d)).2 j≤(swB A n B p k).2 j
 | k,0=>⟨Int.le_refl _,Int.le_refl _⟩
 | k,d + 1=>by
  have h1:=swB_le A n B p j k d
  have h2:=stB_le (faB A n B (k + d)) (k + d) (swB A n B p (k + d)) j
  have e1:(swB A n B p (k + (d + 1))).1 j=(stB (faB A n B (k + d)) (k + d) (swB A n B p (k + d))).1 j:=rfl
  have e2:(swB A n B p (k + (d + 1))).2 j=(stB (faB A n B (k + d)) (k + d) (swB A n B p (k + d))).2 j:=rfl
  rw [e1,e2]
  exact ⟨Int.le_trans h1.1 h2.1,Int.le_trans h2.2 h1.2⟩
theorem sw_left {A:List AV} {n:Nat} {B:List AV} {p:(Nat→Int)×(Nat→Int)} {k m:Nat} (hk:k + 1 < m) (hf:faB A n B k=true):p.1 (k + 1)≤(swB A n B p (m - 1)).1 k:=by
 have h1:=swB_le A n B p (k + 1) 0 k
 have h2:=swB_le A n B p k (k + 1) (m - 1 - (k + 1))
 rw [show k + 1 + (m - 1 - (k + 1))=m - 1 by omega] at h2
 rw [Nat.zero_add] at h1
 have h3:(swB A n B p (k + 1)).1 k=max ((swB A n B p k).1 k) ((swB A n B p k).1 (k + 1)):=by
  show (stB (faB A n B k) k _).1 k=_
  rw [hf]; exact updI_same _ _ _
 have h4:p.1 (k + 1)≤(swB A n B p k).1 (k + 1):=h1.1
 omega
theorem sw_right {A:List AV} {n:Nat} {B:List AV} {p:(Nat→Int)×(Nat→Int)} {k m:Nat} (hk:k + 1 < m) (hf:faB A n B k=false):p.1 k≤(swB A n B p (m - 1)).1 (k + 1):=by
 have h1:=swB_le A n B p k 0 k
 have h2:=swB_le A n B p (k + 1) (k + 1) (m - 1 - (k + 1))
 rw [show k + 1 + (m - 1 - (k + 1))=m - 1 by omega] at h2
 rw [Nat.zero_add] at h1
 have h3:(swB A n B p (k + 1)).1 (k + 1)=max ((swB A n B p k).1 (k + 1)) ((swB A n B p k).1 k):=by
  show (stB (faB A n B k) k _).1 (k + 1)=_
  rw [hf]; exact updI_same _ _ _
 have h4:p.1 k≤(swB A n B p k).1 k:=h1.1
 omega
theorem rd_le (A:List AV) (n:Nat) (L B:List AV) (m j:Nat):∀ r d:Nat,(rdB A n L B m r).1 j≤(rdB A n L B m (r + d)).1 j∧(rdB A n L B m (r + d)).2 j≤(rdB A n L B m r).2 j
 | r,0=>⟨Int.le_refl _,Int.le_refl _⟩
 | r,d + 1=>by
  have h1:=rd_le A n L B m j r d
  have h2:=swB_le A n B (rdB A n L B m (r + d)) j 0 (m - 1)
  rw [Nat.zero_add] at h2
  have e1:(rdB A n L B m (r + (d + 1))).1 j=(swB A n B (rdB A n L B m (r + d)) (m - 1)).1 j:=rfl
  have e2:(rdB A n L B m (r + (d + 1))).2 j=(swB A n B (rdB A n L B m (r + d)) (m - 1)).2 j:=rfl
  rw [e1,e2]
  have h3:(swB A n B (rdB A n L B m (r + d)) 0).1 j=(rdB A n L B m (r + d)).1 j:=rfl
  have h4:(swB A n B (rdB A n L B m (r + d)) 0).2 j=(rdB A n L B m (r + d)).2 j:=rfl
  rw [h3,h4] at h2
  exact ⟨Int.le_trans h1.1 h2.1,Int.le_trans h2.2 h1.2⟩
section
variable {A L B : List AV} {n nl nf nw : Nat}
theorem deg_lt (hn:2≤n∧n≤10) (ha:∀ i,i < n→angAt A i) (he:eqP A n nl nf nw) {i k:Nat} (hik:i < k) (hk:k < n):(degA A i).toNat < (degA A k).toNat∧0≤degA A i∧(degA A k).toNat < nw∧0≤degA A k:=by
 have h1:=deg_bd hn ha he i (by omega)
 have h2:=deg_bd hn ha he k hk
 have h3:=ang_up ha i (k - i) (by omega)
 rw [show i + (k - i)=k by omega] at h3
 unfold degA
 omega
theorem gap_key (hn:2≤n∧n≤10) (ha:∀ i,i < n→angAt A i) (he:eqP A n nl nf nw) {g k:Nat} (hg:g + 1 < n) (k1:(degA A g).toNat≤k) (k2:k < (degA A (g + 1)).toNat):faB A n B k=boolAt B (g * 1):=by
 have hd:=deg_bd hn ha he (g + 1) hg
 have hd0:=deg_bd hn ha he g (by omega)
 unfold degA at k1 k2
 unfold faB
 have c1:∀ j,j < g→intAt A ((0 + j + 1) * 1) < intAt A (0 * 1) + ((k + 1:Nat):Int):=fun j hj=>by
  have:=ang_up ha (j + 1) (g - (j + 1)) (by omega)
  rw [show j + 1 + (g - (j + 1))=g by omega] at this
  rw [Nat.zero_add]
  omega
 have c2:¬ intAt A ((0 + g + 1) * 1) < intAt A (0 * 1) + ((k + 1:Nat):Int):=by rw [Nat.zero_add]; omega
 rw [gapF_at n 0 g (by omega) c1 c2,Nat.zero_add]
theorem gap_in (hn:2≤n∧n≤10) (ha:∀ i,i < n→angAt A i) (he:eqP A n nl nf nw):∀ (d i x:Nat),i + d < n→(degA A i).toNat≤x→x < (degA A (i + d)).toNat→∃ g,i≤g∧g < i + d∧(degA A g).toNat≤x∧x < (degA A (g + 1)).toNat
 | 0,i,x,h1,h2,h3=>by rw [Nat.add_zero] at h3; omega
 | d + 1,i,x,h1,h2,h3=>by
  by_cases h:x < (degA A (i + d)).toNat
  ·obtain ⟨g,q1,q2,q3⟩:=gap_in hn ha he d i x (by omega) h2 h
   exact ⟨g,q1,by omega,q3⟩
  ·exact ⟨i + d,by omega,by omega,by omega,h3⟩
theorem up_all (hn:2≤n∧n≤10) (ha:∀ i,i < n→angAt A i) (he:eqP A n nl nf nw) {i k:Nat} (hik:i < k) (hk:k < n) {b:Bool}:(∀ x,(degA A i).toNat≤x→x < (degA A k).toNat→faB A n B x=b)↔∀ g,i≤g→g < k→boolAt B (g * 1)=b:=by
 refine ⟨fun h g h1 h2=>?_,fun h x h1 h2=>?_⟩
 ·have q1:=deg_lt hn ha he (i:=g) (k:=g + 1) (by omega) (by omega)
  have q2:(degA A (g + 1)).toNat≤(degA A k).toNat:=by
   by_cases e:g + 1=k
   ·rw [e]; exact Nat.le_refl _
   ·exact Nat.le_of_lt (deg_lt hn ha he (i:=g + 1) (k:=k) (by omega) hk).1
  have q3:(degA A i).toNat≤(degA A g).toNat:=by
   by_cases e:i=g
   ·rw [e]; exact Nat.le_refl _
   ·exact Nat.le_of_lt (deg_lt hn ha he (i:=i) (k:=g) (by omega) (by omega)).1
  rw [← gap_key (B:=B) hn ha he (g:=g) (k:=(degA A g).toNat) (by omega) (Nat.le_refl _) q1.1]
  exact h _ q3 (by omega)
 ·obtain ⟨g,q1,q2,q3,q4⟩:=gap_in hn ha he (k - i) i x (by omega) h1 (by rw [show i + (k - i)=k by omega]; exact h2)
  rw [gap_key (B:=B) hn ha he (g:=g) (by omega) q3 q4]
  exact h g q1 (by omega)
theorem loA_at (hn:2≤n∧n≤10) (ha:∀ i,i < n→angAt A i) (he:eqP A n nl nf nw) {i:Nat}:∀ (r:Nat),r≤n→i < r→loA A L r (degA A i).toNat=intAt L (i * 2 + 0)∧hiA A L r (degA A i).toNat=intAt L (i * 2 + 1)
 | 0,_,h=>by omega
 | r + 1,hr,h=>by
  unfold loA hiA
  by_cases e:i=r
  ·subst e; rw [updI_same,updI_same]; exact ⟨rfl,rfl⟩
  ·have q:=deg_lt hn ha he (i:=i) (k:=r) (by omega) (by omega)
   rw [updI_ne _ _ (by omega),updI_ne _ _ (by omega)]
   exact loA_at hn ha he r (by omega) (by omega)
theorem go_left {m e:Nat}:∀ (d:Nat),e + d < m→(∀ x,e≤x→x < e + d→faB A n B x=true)→∀ r,(rdB A n L B m r).1 (e + d)≤(rdB A n L B m (r + d)).1 e
 | 0,_,_,r=>Int.le_refl _
 | d + 1,h1,h2,r=>by
  have q:=sw_left (A:=A) (n:=n) (B:=B) (p:=rdB A n L B m r) (k:=e + d) (m:=m) (by omega) (h2 _ (by omega) (by omega))
  have q2:=go_left (m:=m) (e:=e) d (by omega) (fun x x1 x2=>h2 x x1 (by omega)) (r + 1)
  rw [show r + (d + 1)=r + 1 + d by omega]
  exact Int.le_trans q q2
theorem go_right {m e:Nat}:∀ (d:Nat),e + d < m→(∀ x,e≤x→x < e + d→faB A n B x=false)→∀ r,(rdB A n L B m r).1 e≤(rdB A n L B m (r + d)).1 (e + d)
 | 0,_,_,r=>Int.le_refl _
 | d + 1,h1,h2,r=>by
  have q2:=go_right (m:=m) (e:=e) d (by omega) (fun x x1 x2=>h2 x x1 (by omega)) r
  have q:=sw_right (A:=A) (n:=n) (B:=B) (p:=rdB A n L B m (r + d)) (k:=e + d) (m:=m) (by omega) (h2 _ (by omega) (by omega))
  exact Int.le_trans q2 q
theorem dtd_iff (hz2:(2≤n∧n≤10)∧(∀ i,i < n→angAt A i)∧eqP A n nl nf nw∧(∀ i,i < nl→rngAt 200 L i)):dtd A n L B nw↔∃ k,k < n∧∃ j,j < k∧dbP B L j k:=by
 obtain ⟨hn,ha,he,hl⟩:=hz2
 have hr:∀ i,i < n→0≤intAt L (i * 2 + 0)∧intAt L (i * 2 + 0)≤intAt L (i * 2 + 1)∧intAt L (i * 2 + 1)≤200:=fun i hi=>by
  have h1:=hl i (by have:=he.1; omega)
  simp only [rngAt] at h1
  omega
 have hm:0 < nw:=by have:=deg_bd hn ha he 0 (by omega); omega
 refine ⟨fun ⟨k,hk,h⟩=>?_,fun ⟨k,hk,j,hj,h⟩=>?_⟩
 ·obtain ⟨q1,q2⟩:=rdB_ok (A:=A) (n:=n) (L:=L) (B:=B) hm nw
  rcases q2 k hk with y | ⟨i',y1,y2,y3⟩
  ·rcases q1 k hk with x | ⟨i,x1,x2,x3⟩
   ·omega
   ·have:=hr i x1; omega
  ·have r2:=hr i' y1
   rcases q1 k hk with x | ⟨i,x1,x2,x3⟩
   ·omega
   ·have r1:=hr i x1
    have hu:=upB_trans x3 y3
    rcases Nat.lt_trichotomy i i' with c | c | c
    ·have hd:=deg_lt hn ha he c y1
     rcases hu with ⟨_,hu⟩ | ⟨hu,_⟩
     ·exact ⟨i',y1,i,c,.inr ⟨(up_all hn ha he c y1).1 hu,by omega⟩⟩
     ·omega
    ·subst c; omega
    ·have hd:=deg_lt hn ha he c x1
     rcases hu with ⟨hu,_⟩ | ⟨_,hu⟩
     ·omega
     ·exact ⟨i,x1,i',c,.inl ⟨(up_all hn ha he c x1).1 hu,by omega⟩⟩
 ·have hd:=deg_lt hn ha he hj hk
  have a1:=loA_at (L:=L) hn ha he (i:=j) n (Nat.le_refl _) (by omega)
  have a2:=loA_at (L:=L) hn ha he (i:=k) n (Nat.le_refl _) hk
  have e0:(degA A j).toNat + ((degA A k).toNat - (degA A j).toNat)=(degA A k).toNat:=by omega
  rcases h with ⟨h1,h2⟩ | ⟨h1,h2⟩
  ·refine ⟨(degA A j).toNat,by omega,?_⟩
   have g1:=go_left (L:=L) (m:=nw) (e:=(degA A j).toNat) ((degA A k).toNat - (degA A j).toNat) (by omega) (fun x x1 x2=>(up_all (B:=B) hn ha he hj hk).2 h1 x x1 (by omega)) 0
   rw [e0] at g1
   have g2:=rd_le A n L B nw (degA A j).toNat (0 + ((degA A k).toNat - (degA A j).toNat)) (nw - (0 + ((degA A k).toNat - (degA A j).toNat)))
   rw [show (0 + ((degA A k).toNat - (degA A j).toNat)) + (nw - (0 + ((degA A k).toNat - (degA A j).toNat)))=nw by omega] at g2
   have g3:=rd_le A n L B nw (degA A j).toNat 0 nw
   rw [Nat.zero_add] at g3
   have b1:(rdB A n L B nw 0).1 (degA A k).toNat=intAt L (k * 2 + 0):=a2.1
   have b2:(rdB A n L B nw 0).2 (degA A j).toNat=intAt L (j * 2 + 1):=a1.2
   omega
  ·refine ⟨(degA A k).toNat,by omega,?_⟩
   have g1:=go_right (L:=L) (m:=nw) (e:=(degA A j).toNat) ((degA A k).toNat - (degA A j).toNat) (by omega) (fun x x1 x2=>(up_all (B:=B) hn ha he hj hk).2 h1 x x1 (by omega)) 0
   rw [e0] at g1
   have g2:=rd_le A n L B nw (degA A k).toNat (0 + ((degA A k).toNat - (degA A j).toNat)) (nw - (0 + ((degA A k).toNat - (degA A j).toNat)))
   rw [show (0 + ((degA A k).toNat - (degA A j).toNat)) + (nw - (0 + ((degA A k).toNat - (degA A j).toNat)))=nw by omega] at g2
   have g3:=rd_le A n L B nw (degA A k).toNat 0 nw
   rw [Nat.zero_add] at g3
   have b1:(rdB A n L B nw 0).1 (degA A j).toNat=intAt L (j * 2 + 0):=a1.1
   have b2:(rdB A n L B nw 0).2 (degA A k).toNat=intAt L (k * 2 + 1):=a2.2
   omega
end
end
end Go.Proofs.Ytldekgkjofgacaa
