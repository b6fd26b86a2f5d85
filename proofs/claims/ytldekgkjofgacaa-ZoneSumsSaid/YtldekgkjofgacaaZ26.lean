import Derived.Test.YtldekgkjofgacaaZ24b
set_option linter.all false
/- Bounds that are carried across all gaps until none change -/
namespace Go.Proofs.Ytldekgkjofgacaa
open Go Ev
noncomputable section
abbrev XX:=(Nat→Int)×(Nat→Int)
def stS (x:XX) (s:Bool×Nat×Nat):XX:=match s with
 | (true,j,k)=>(updI x.1 j (max (x.1 j) (x.1 k)),x.2)
 | (false,j,k)=>(x.1,updI x.2 j (min (x.2 j) (x.2 k)))
def runS (l:List (Bool×Nat×Nat)) (x:XX):XX:=l.foldl stS x
theorem runS_app (l m:List (Bool×Nat×Nat)) (x:XX):runS (l ++ m) x=runS m (runS l x):=List.foldl_append
def LeX (x y:XX):Prop:=∀ k,x.1 k≤y.1 k∧y.2 k≤x.2 k
theorem stS_le (x:XX) (s:Bool×Nat×Nat):LeX x (stS x s):=fun i=>by
 obtain ⟨b,j,k⟩:=s
 cases b with
 | true =>
  show x.1 i≤updI x.1 j _ i∧x.2 i≤x.2 i
  unfold updI
  refine ⟨?_,Int.le_refl _⟩
  split
  ·rename_i e; subst e; omega
  ·exact Int.le_refl _
 | false =>
  show x.1 i≤x.1 i∧updI x.2 j _ i≤x.2 i
  unfold updI
  refine ⟨Int.le_refl _,?_⟩
  split
  ·rename_i e; subst e; omega
  ·exact Int.le_refl _
theorem LeX.trans {x y z:XX} (h:LeX x y) (h2:LeX y z):LeX x z:=fun k=>⟨Int.le_trans (h k).1 (h2 k).1,Int.le_trans (h2 k).2 (h k).2⟩
theorem runS_le:∀ (l:List (Bool×Nat×Nat)) (x:XX),LeX x (runS l x)
 | [],x=>fun k=>⟨Int.le_refl _,Int.le_refl _⟩
 | s :: l,x=>(stS_le x s).trans (runS_le l (stS x s))
def EqX (x y:XX):Prop:=∀ k,k < 91→x.1 k=y.1 k∧x.2 k=y.2 k
def condS (x:XX) (s:Bool×Nat×Nat):Prop:=match s with
 | (true,j,k)=>x.1 k≤x.1 j
 | (false,j,k)=>x.2 j≤x.2 k
theorem runS_fix:∀ (l:List (Bool×Nat×Nat)) (x:XX),(∀ s∈l,s.2.1 < 91∧s.2.2 < 91)→EqX (runS l x) x→∀ s∈l,condS x s
 | [],x,_,_,s,hs=>by cases hs
 | s0 :: l,x,hb,he,s,hs=>by
  have h1:=stS_le x s0
  have h2:=runS_le l (stS x s0)
  have e1:EqX (stS x s0) x:=fun k hk=>by
   have a1:=h1 k; have a2:=h2 k; have a3:=he k hk
   have b1:(runS (s0 :: l) x).1 k=(runS l (stS x s0)).1 k:=rfl
   have b2:(runS (s0 :: l) x).2 k=(runS l (stS x s0)).2 k:=rfl
   omega
  rcases List.mem_cons.1 hs with rfl | hs
  ·obtain ⟨b,j,k⟩:=s
   have hj:=(hb _ hs).1
   have:=e1 j hj
   cases b with
   | true =>
    have q:(stS x (true,j,k)).1 j=max (x.1 j) (x.1 k):=updI_same _ _ _
    show x.1 k≤x.1 j
    omega
   | false =>
    have q:(stS x (false,j,k)).2 j=min (x.2 j) (x.2 k):=updI_same _ _ _
    show x.2 j≤x.2 k
    omega
  ·have e2:EqX (runS l (stS x s0)) (stS x s0):=fun k hk=>by
    have a1:=e1 k hk; have a3:=he k hk
    have b1:(runS (s0 :: l) x).1 k=(runS l (stS x s0)).1 k:=rfl
    have b2:(runS (s0 :: l) x).2 k=(runS l (stS x s0)).2 k:=rfl
    omega
   have ih:=runS_fix l (stS x s0) (fun s hs=>hb s (List.mem_cons_of_mem _ hs)) e2 s hs
   obtain ⟨b,j,k⟩:=s
   obtain ⟨hj,hk⟩:=hb _ (List.mem_cons_of_mem _ hs)
   have q1:=e1 j hj; have q2:=e1 k hk
   cases b with
   | true =>
    have ih':(stS x s0).1 k≤(stS x s0).1 j:=ih
    show x.1 k≤x.1 j
    have:s0=s0:=rfl
    omega
   | false =>
    have ih':(stS x s0).2 j≤(stS x s0).2 k:=ih
    show x.2 j≤x.2 k
    omega
def dnS (c:Bool) (q:Nat):Nat→List (Bool×Nat×Nat)
 | 0=>[]
 | t + 1=>dnS c q t ++ [(c,q - t - 1,q - t)]
def upS (c:Bool) (p:Nat):Nat→List (Bool×Nat×Nat)
 | 0=>[]
 | t + 1=>upS c p t ++ [(c,p + t + 1,p + t)]
theorem run_dnT (q:Nat) (x:XX):∀ t,runS (dnS true q t) x=(swD max x.1 q t,x.2)
 | 0=>rfl
 | t + 1=>by unfold dnS; rw [runS_app,run_dnT q x t]; rfl
theorem run_dnF (q:Nat) (x:XX):∀ t,runS (dnS false q t) x=(x.1,swD min x.2 q t)
 | 0=>rfl
 | t + 1=>by unfold dnS; rw [runS_app,run_dnF q x t]; rfl
theorem run_upT (p:Nat) (x:XX):∀ t,runS (upS true p t) x=(swU max x.1 p t,x.2)
 | 0=>rfl
 | t + 1=>by unfold upS; rw [runS_app,run_upT p x t]; rfl
theorem run_upF (p:Nat) (x:XX):∀ t,runS (upS false p t) x=(x.1,swU min x.2 p t)
 | 0=>rfl
 | t + 1=>by unfold upS; rw [runS_app,run_upF p x t]; rfl
def gapS (b:Bool) (p q:Nat):List (Bool×Nat×Nat):=match b with
 | true=>dnS true q (q - p) ++ upS false p (q - p)
 | false=>upS true p (q - p) ++ dnS false q (q - p)
theorem run_gap (b:Bool) (p q:Nat) (x:XX):runS (gapS b p q) x=crB b p q x:=by
 cases b with
 | true=>show runS (dnS true q (q - p) ++ upS false p (q - p)) x=_; rw [runS_app,run_dnT,run_upF]; rfl
 | false=>show runS (upS true p (q - p) ++ dnS false q (q - p)) x=_; rw [runS_app,run_upT,run_dnF]; rfl
def allS (A B:List AV):Nat→List (Bool×Nat×Nat)
 | 0=>[]
 | j + 1=>allS A B j ++ gapS (boolAt B (j * 1)) (degA A j).toNat (degA A (j + 1)).toNat
def stG (A B:List AV) (x:XX):Nat→XX
 | 0=>x
 | j + 1=>crB (boolAt B (j * 1)) (degA A j).toNat (degA A (j + 1)).toNat (stG A B x j)
theorem run_all (A B:List AV) (x:XX):∀ j,runS (allS A B j) x=stG A B x j
 | 0=>rfl
 | j + 1=>by unfold allS; rw [runS_app,run_all A B x j,run_gap]; rfl
def rnG (A L B:List AV) (n:Nat):Nat→XX
 | 0=>opA A L n
 | i + 1=>stG A B (rnG A L B n i) (n - 1)
theorem dnS_mem {c:Bool} {q j k:Nat} {c':Bool}:∀ {t},(c',j,k)∈dnS c q t→c'=c∧∃ u,u < t∧j=q - u - 1∧k=q - u
 | 0,h=>by cases h
 | t + 1,h=>by
  unfold dnS at h
  rcases List.mem_append.1 h with h | h
  ·obtain ⟨h1,u,h2,h3⟩:=dnS_mem h
   exact ⟨h1,u,by omega,h3⟩
  ·simp only [List.mem_singleton,Prod.mk.injEq] at h
   exact ⟨h.1,t,by omega,h.2.1,h.2.2⟩
theorem upS_mem {c:Bool} {p j k:Nat} {c':Bool}:∀ {t},(c',j,k)∈upS c p t→c'=c∧∃ u,u < t∧j=p + u + 1∧k=p + u
 | 0,h=>by cases h
 | t + 1,h=>by
  unfold upS at h
  rcases List.mem_append.1 h with h | h
  ·obtain ⟨h1,u,h2,h3⟩:=upS_mem h
   exact ⟨h1,u,by omega,h3⟩
  ·simp only [List.mem_singleton,Prod.mk.injEq] at h
   exact ⟨h.1,t,by omega,h.2.1,h.2.2⟩
theorem dnS_has {c:Bool} {q u:Nat}:∀ {t},u < t→(c,q - u - 1,q - u)∈dnS c q t
 | 0,h=>by omega
 | t + 1,h=>by
  unfold dnS
  by_cases e:u=t
  ·subst e; exact List.mem_append_right _ (List.mem_singleton.2 rfl)
  ·exact List.mem_append_left _ (dnS_has (by omega))
theorem upS_has {c:Bool} {p u:Nat}:∀ {t},u < t→(c,p + u + 1,p + u)∈upS c p t
 | 0,h=>by omega
 | t + 1,h=>by
  unfold upS
  by_cases e:u=t
  ·subst e; exact List.mem_append_right _ (List.mem_singleton.2 rfl)
  ·exact List.mem_append_left _ (upS_has (by omega))
theorem allS_mem {A B:List AV} {s:Bool×Nat×Nat}:∀ {j},s∈allS A B j→∃ g,g < j∧s∈gapS (boolAt B (g * 1)) (degA A g).toNat (degA A (g + 1)).toNat
 | 0,h=>by cases h
 | j + 1,h=>by
  unfold allS at h
  rcases List.mem_append.1 h with h | h
  ·obtain ⟨g,h1,h2⟩:=allS_mem h
   exact ⟨g,by omega,h2⟩
  ·exact ⟨j,by omega,h⟩
theorem allS_has {A B:List AV} {s:Bool×Nat×Nat} {g:Nat} (hs:s∈gapS (boolAt B (g * 1)) (degA A g).toNat (degA A (g + 1)).toNat):∀ {j},g < j→s∈allS A B j
 | 0,h=>by omega
 | j + 1,h=>by
  unfold allS
  by_cases e:g=j
  ·subst e; exact List.mem_append_right _ hs
  ·exact List.mem_append_left _ (allS_has hs (by omega))
def legS (F:Nat→Bool) (m:Nat) (s:Bool×Nat×Nat):Prop:=match s with
 | (true,j,k)=>j < m∧k < m∧((k=j + 1∧F j=true)∨(j=k + 1∧F k=false))
 | (false,j,k)=>j < m∧k < m∧((j=k + 1∧F k=true)∨(k=j + 1∧F j=false))
theorem stS_ok {F:Nat→Bool} {A:List AV} {n:Nat} {L:List AV} {m:Nat} {x:XX} {s:Bool×Nat×Nat} (h1:LoOK F A n L x.1 m) (h2:HiOK F A n L x.2 m) (hs:legS F m s):LoOK F A n L (stS x s).1 m∧HiOK F A n L (stS x s).2 m:=by
 obtain ⟨b,j,k⟩:=s
 cases b with
 | true =>
  obtain ⟨hj,hk,hc⟩:=hs
  refine ⟨fun i hi=>?_,h2⟩
  show updI _ _ _ i=0∨∃ i',i' < n∧updI _ _ _ i=_∧_
  by_cases e:i=j
  ·subst e
   rw [updI_same]
   rcases max_or (x.1 i) (x.1 k) with q | q
   ·rw [q]; exact h1 i hi
   ·rw [q]
    rcases h1 k hk with y | ⟨i',y1,y2,y3⟩
    ·exact .inl y
    ·refine .inr ⟨i',y1,y2,?_⟩
     rcases hc with ⟨rfl,hf⟩ | ⟨rfl,hf⟩
     ·exact upB_left y3 hf
     ·exact upB_right y3 hf
  ·rw [updI_ne _ _ e]; exact h1 i hi
 | false =>
  obtain ⟨hj,hk,hc⟩:=hs
  refine ⟨h1,fun i hi=>?_⟩
  show updI _ _ _ i=200∨∃ i',i' < n∧updI _ _ _ i=_∧_
  by_cases e:i=j
  ·subst e
   rw [updI_same]
   rcases min_or (x.2 i) (x.2 k) with q | q
   ·rw [q]; exact h2 i hi
   ·rw [q]
    rcases h2 k hk with y | ⟨i',y1,y2,y3⟩
    ·exact .inl y
    ·refine .inr ⟨i',y1,y2,?_⟩
     rcases hc with ⟨rfl,hf⟩ | ⟨rfl,hf⟩
     ·exact upB_right' y3 hf
     ·exact upB_left' y3 hf
  ·rw [updI_ne _ _ e]; exact h2 i hi
theorem runS_ok {F:Nat→Bool} {A:List AV} {n:Nat} {L:List AV} {m:Nat}:∀ (l:List (Bool×Nat×Nat)) (x:XX),LoOK F A n L x.1 m→HiOK F A n L x.2 m→(∀ s∈l,legS F m s)→LoOK F A n L (runS l x).1 m∧HiOK F A n L (runS l x).2 m
 | [],x,h1,h2,_=>⟨h1,h2⟩
 | s :: l,x,h1,h2,hs=>by
  obtain ⟨q1,q2⟩:=stS_ok h1 h2 (hs s (List.mem_cons_self ..))
  exact runS_ok l (stS x s) q1 q2 (fun s hs'=>hs s (List.mem_cons_of_mem _ hs'))
def OutX (m:Nat) (x:XX):Prop:=∀ k,m≤k→x.1 k=0∧x.2 k=200
def RngX (x:XX):Prop:=∀ k,0≤x.1 k∧x.1 k≤200∧0≤x.2 k∧x.2 k≤200
theorem stS_out {F:Nat→Bool} {m:Nat} {x:XX} {s:Bool×Nat×Nat} (h:OutX m x) (hs:legS F m s):OutX m (stS x s):=fun i hi=>by
 obtain ⟨b,j,k⟩:=s
 cases b with
 | true =>
  have hj:=hs.1
  exact ⟨(updI_ne _ _ (by omega)).trans (h i hi).1,(h i hi).2⟩
 | false =>
  have hj:=hs.1
  exact ⟨(h i hi).1,(updI_ne _ _ (by omega)).trans (h i hi).2⟩
theorem stS_rng {x:XX} (s:Bool×Nat×Nat) (h:RngX x):RngX (stS x s):=fun i=>by
 obtain ⟨b,j,k⟩:=s
 have h1:=h i; have h2:=h j; have h3:=h k
 cases b with
 | true =>
  by_cases e:i=j
  ·subst e
   have q:(stS x (true,i,k)).1 i=max (x.1 i) (x.1 k):=updI_same _ _ _
   have q2:(stS x (true,i,k)).2 i=x.2 i:=rfl
   omega
  ·have q:(stS x (true,j,k)).1 i=x.1 i:=updI_ne _ _ e
   have q2:(stS x (true,j,k)).2 i=x.2 i:=rfl
   omega
 | false =>
  by_cases e:i=j
  ·subst e
   have q:(stS x (false,i,k)).2 i=min (x.2 i) (x.2 k):=updI_same _ _ _
   have q2:(stS x (false,i,k)).1 i=x.1 i:=rfl
   omega
  ·have q:(stS x (false,j,k)).2 i=x.2 i:=updI_ne _ _ e
   have q2:(stS x (false,j,k)).1 i=x.1 i:=rfl
   omega
theorem runS_rng:∀ (l:List (Bool×Nat×Nat)) (x:XX),RngX x→RngX (runS l x)
 | [],x,h=>h
 | s :: l,x,h=>runS_rng l (stS x s) (stS_rng s h)
theorem runS_out {F:Nat→Bool} {m:Nat}:∀ (l:List (Bool×Nat×Nat)) (x:XX),OutX m x→(∀ s∈l,legS F m s)→OutX m (runS l x)
 | [],x,h,_=>h
 | s :: l,x,h,hs=>runS_out l (stS x s) (stS_out h (hs s (List.mem_cons_self ..))) (fun s hs'=>hs s (List.mem_cons_of_mem _ hs'))
def StabX (F:Nat→Bool) (m:Nat) (x:XX):Prop:=∀ k,k + 1 < m→(F k=true→x.1 (k + 1)≤x.1 k∧x.2 (k + 1)≤x.2 k)∧(F k=false→x.1 k≤x.1 (k + 1)∧x.2 k≤x.2 (k + 1))
theorem stab_right {F:Nat→Bool} {m:Nat} {x:XX} (h:StabX F m x) (p:Nat):∀ d,p + d < m→(∀ k,p≤k→k < p + d→F k=false)→x.1 p≤x.1 (p + d)∧x.2 p≤x.2 (p + d)
 | 0,_,_=>⟨Int.le_refl _,Int.le_refl _⟩
 | d + 1,h1,h2=>by
  have ih:=stab_right h p d (by omega) (fun k q1 q2=>h2 k q1 (by omega))
  have:=(h (p + d) (by omega)).2 (h2 _ (by omega) (by omega))
  exact ⟨Int.le_trans ih.1 this.1,Int.le_trans ih.2 this.2⟩
theorem stab_left {F:Nat→Bool} {m:Nat} {x:XX} (h:StabX F m x) (q:Nat):∀ d,q + d < m→(∀ k,q≤k→k < q + d→F k=true)→x.1 (q + d)≤x.1 q∧x.2 (q + d)≤x.2 q
 | 0,_,_=>⟨Int.le_refl _,Int.le_refl _⟩
 | d + 1,h1,h2=>by
  have ih:=stab_left h q d (by omega) (fun k q1 q2=>h2 k q1 (by omega))
  have:=(h (q + d) (by omega)).1 (h2 _ (by omega) (by omega))
  exact ⟨Int.le_trans this.1 ih.1,Int.le_trans this.2 ih.2⟩
theorem stab_up {F:Nat→Bool} {m:Nat} {x:XX} (h:StabX F m x) {p q:Nat} (hu:upB F p q) (hp:p < m) (hq:q < m):x.1 p≤x.1 q∧x.2 p≤x.2 q:=by
 rcases hu with ⟨h1,h2⟩ | ⟨h1,h2⟩
 ·have:=stab_right h p (q - p) (by omega) (fun k q1 q2=>h2 k q1 (by omega))
  rw [show p + (q - p)=q by omega] at this
  exact this
 ·have:=stab_left h q (p - q) (by omega) (fun k q1 q2=>h2 k q1 (by omega))
  rw [show q + (p - q)=p by omega] at this
  exact this
section
variable {A L B : List AV} {n nl nf nw m : Nat}
theorem sw_leftH {p:XX} {k:Nat} (hk:k + 1 < m) (hf:faB A n B k=true):(swB A n B p (m - 1)).2 (k + 1)≤p.2 k:=by
 have h1:=swB_le A n B p k 0 k
 have h2:=swB_le A n B p (k + 1) (k + 1) (m - 1 - (k + 1))
 rw [show k + 1 + (m - 1 - (k + 1))=m - 1 by omega] at h2
 rw [Nat.zero_add] at h1
 have h3:(swB A n B p (k + 1)).2 (k + 1)=min ((swB A n B p k).2 (k + 1)) ((swB A n B p k).2 k):=by
  show (stB (faB A n B k) k _).2 (k + 1)=_
  rw [hf]; exact updI_same _ _ _
 have h4:(swB A n B p k).2 k≤p.2 k:=h1.2
 omega
theorem sw_rightH {p:XX} {k:Nat} (hk:k + 1 < m) (hf:faB A n B k=false):(swB A n B p (m - 1)).2 k≤p.2 (k + 1):=by
 have h1:=swB_le A n B p (k + 1) 0 k
 have h2:=swB_le A n B p k (k + 1) (m - 1 - (k + 1))
 rw [show k + 1 + (m - 1 - (k + 1))=m - 1 by omega] at h2
 rw [Nat.zero_add] at h1
 have h3:(swB A n B p (k + 1)).2 k=min ((swB A n B p k).2 k) ((swB A n B p k).2 (k + 1)):=by
  show (stB (faB A n B k) k _).2 k=_
  rw [hf]; exact updI_same _ _ _
 have h4:(swB A n B p k).2 (k + 1)≤p.2 (k + 1):=h1.2
 omega
theorem goH_left {e:Nat}:∀ (d:Nat),e + d < m→(∀ x,e≤x→x < e + d→faB A n B x=true)→∀ r,(rdB A n L B m (r + d)).2 (e + d)≤(rdB A n L B m r).2 e
 | 0,_,_,r=>Int.le_refl _
 | d + 1,h1,h2,r=>by
  have q2:=goH_left (e:=e) d (by omega) (fun x x1 x2=>h2 x x1 (by omega)) r
  have q:=sw_leftH (A:=A) (n:=n) (B:=B) (p:=rdB A n L B m (r + d)) (k:=e + d) (m:=m) (by omega) (h2 _ (by omega) (by omega))
  exact Int.le_trans q q2
theorem goH_right {e:Nat}:∀ (d:Nat),e + d < m→(∀ x,e≤x→x < e + d→faB A n B x=false)→∀ r,(rdB A n L B m (r + d)).2 e≤(rdB A n L B m r).2 (e + d)
 | 0,_,_,r=>Int.le_refl _
 | d + 1,h1,h2,r=>by
  have q:=sw_rightH (A:=A) (n:=n) (B:=B) (p:=rdB A n L B m r) (k:=e + d) (m:=m) (by omega) (h2 _ (by omega) (by omega))
  have q2:=goH_right (e:=e) d (by omega) (fun x x1 x2=>h2 x x1 (by omega)) (r + 1)
  rw [show r + (d + 1)=r + 1 + d by omega]
  exact Int.le_trans q2 q
theorem reachB {p q:Nat} (hu:upB (faB A n B) p q) (hp:p < m) (hq:q < m):loA A L n p≤(rdB A n L B m m).1 q∧(rdB A n L B m m).2 p≤hiA A L n q:=by
 rcases hu with ⟨h1,h2⟩ | ⟨h1,h2⟩
 ·have g1:=go_right (A:=A) (n:=n) (L:=L) (B:=B) (m:=m) (e:=p) (q - p) (by omega) (fun x x1 x2=>h2 x x1 (by omega)) 0
  have g2:=goH_right (A:=A) (n:=n) (L:=L) (B:=B) (m:=m) (e:=p) (q - p) (by omega) (fun x x1 x2=>h2 x x1 (by omega)) 0
  rw [show p + (q - p)=q by omega,Nat.zero_add] at g1 g2
  have g3:=rd_le A n L B m q (q - p) (m - (q - p))
  have g4:=rd_le A n L B m p (q - p) (m - (q - p))
  rw [show q - p + (m - (q - p))=m by omega] at g3 g4
  exact ⟨Int.le_trans g1 g3.1,Int.le_trans g4.2 g2⟩
 ·have g1:=go_left (A:=A) (n:=n) (L:=L) (B:=B) (m:=m) (e:=q) (p - q) (by omega) (fun x x1 x2=>h2 x x1 (by omega)) 0
  have g2:=goH_left (A:=A) (n:=n) (L:=L) (B:=B) (m:=m) (e:=q) (p - q) (by omega) (fun x x1 x2=>h2 x x1 (by omega)) 0
  rw [show q + (p - q)=p by omega,Nat.zero_add] at g1 g2
  have g3:=rd_le A n L B m q (p - q) (m - (p - q))
  have g4:=rd_le A n L B m p (p - q) (m - (p - q))
  rw [show p - q + (m - (p - q))=m by omega] at g3 g4
  exact ⟨Int.le_trans g1 g3.1,Int.le_trans g4.2 g2⟩
theorem rd_stab (hm:0 < m) (hd:∀ i,i < n→(degA A i).toNat < m∧loA A L n (degA A i).toNat=intAt L (i * 2 + 0)∧hiA A L n (degA A i).toNat=intAt L (i * 2 + 1)) (h0:∀ k,k < m→0≤(rdB A n L B m m).1 k∧(rdB A n L B m m).2 k≤200):StabX (faB A n B) m (rdB A n L B m m):=fun k hk=>by
 obtain ⟨q1,q2⟩:=rdB_ok (A:=A) (n:=n) (L:=L) (B:=B) hm m
 refine ⟨fun hf=>⟨?_,?_⟩,fun hf=>⟨?_,?_⟩⟩
 ·rcases q1 (k + 1) hk with y | ⟨i,y1,y2,y3⟩
  ·rw [y]; exact (h0 k (by omega)).1
  ·obtain ⟨d1,d2,d3⟩:=hd i y1
   have:=(reachB (L:=L) (upB_left y3 hf) d1 (show k < m by omega)).1
   omega
 ·rcases q2 k (by omega) with y | ⟨i,y1,y2,y3⟩
  ·rw [y]; exact (h0 (k + 1) hk).2
  ·obtain ⟨d1,d2,d3⟩:=hd i y1
   have:=(reachB (L:=L) (upB_right' y3 hf) hk d1).2
   omega
 ·rcases q1 k (by omega) with y | ⟨i,y1,y2,y3⟩
  ·rw [y]; exact (h0 (k + 1) hk).1
  ·obtain ⟨d1,d2,d3⟩:=hd i y1
   have:=(reachB (L:=L) (upB_right y3 hf) d1 hk).1
   omega
 ·rcases q2 (k + 1) hk with y | ⟨i,y1,y2,y3⟩
  ·rw [y]; exact (h0 k (by omega)).2
  ·obtain ⟨d1,d2,d3⟩:=hd i y1
   have:=(reachB (L:=L) (upB_left' y3 hf) (show k < m by omega) d1).2
   omega
theorem uniqX {F:Nat→Bool} {x y:XX} (hd:∀ i,i < n→(degA A i).toNat < m∧loA A L n (degA A i).toNat=intAt L (i * 2 + 0)∧hiA A L n (degA A i).toNat=intAt L (i * 2 + 1))
  (h1:LoOK F A n L x.1 m) (h2:HiOK F A n L x.2 m) (hs:StabX F m y) (hy:∀ k,k < m→0≤y.1 k∧y.2 k≤200) (hi:LeX (loA A L n,hiA A L n) y):∀ k,k < m→x.1 k≤y.1 k∧y.2 k≤x.2 k:=fun k hk=>by
 refine ⟨?_,?_⟩
 ·rcases h1 k hk with q | ⟨i,q1,q2,q3⟩
  ·rw [q]; exact (hy k hk).1
  ·obtain ⟨d1,d2,d3⟩:=hd i q1
   have a:=(stab_up hs q3 d1 hk).1
   have b:=(hi (degA A i).toNat).1
   have b':loA A L n (degA A i).toNat≤y.1 (degA A i).toNat:=b
   omega
 ·rcases h2 k hk with q | ⟨i,q1,q2,q3⟩
  ·rw [q]; exact (hy k hk).2
  ·obtain ⟨d1,d2,d3⟩:=hd i q1
   have a:=(stab_up hs q3 hk d1).2
   have b:=(hi (degA A i).toNat).2
   have b':y.2 (degA A i).toNat≤hiA A L n (degA A i).toNat:=b
   omega
theorem rdB_out (r:Nat) (h:OutX m (loA A L n,hiA A L n)):OutX m (rdB A n L B m r):=by
 have sw:∀ (p:XX),OutX m p→∀ k,k < m∨k=0→OutX m (swB A n B p k):=fun p hp k=>by
  induction k with
  | zero=>exact fun _=>hp
  | succ k ih =>
   intro hk i hi
   have ih':=ih (by omega) i hi
   show (stB (faB A n B k) k (swB A n B p k)).1 i=0∧(stB (faB A n B k) k (swB A n B p k)).2 i=200
   unfold stB
   split
   ·exact ⟨(updI_ne _ _ (by omega)).trans ih'.1,(updI_ne _ _ (by omega)).trans ih'.2⟩
   ·exact ⟨(updI_ne _ _ (by omega)).trans ih'.1,(updI_ne _ _ (by omega)).trans ih'.2⟩
 induction r with
 | zero=>exact h
 | succ r ih=>exact sw _ ih (m - 1) (by omega)
end
section
variable {A L B : List AV} {n nl nf nw : Nat}
theorem loA_new (hn:2≤n∧n≤10) (ha:∀ i,i < n→angAt A i) (he:eqP A n nl nf nw) {i:Nat} (hi:i < n):∀ r,r≤i→loA A L r (degA A i).toNat=0∧hiA A L r (degA A i).toNat=200
 | 0,_=>⟨rfl,rfl⟩
 | r + 1,h=>by
  unfold loA hiA
  have q:=deg_lt hn ha he (i:=r) (k:=i) (by omega) hi
  rw [updI_ne _ _ (by omega),updI_ne _ _ (by omega)]
  exact loA_new hn ha he hi r (by omega)
theorem opA_eq (hn:2≤n∧n≤10) (ha:∀ i,i < n→angAt A i) (he:eqP A n nl nf nw) (hl:∀ i,i < nl→rngAt 200 L i):∀ i,i≤n→opA A L i=(loA A L i,hiA A L i)
 | 0,_=>rfl
 | i + 1,h=>by
  have ih:=opA_eq hn ha he hl i (by omega)
  have q:=loA_new (L:=L) hn ha he (i:=i) (by omega) i (Nat.le_refl _)
  have hr:rngAt 200 L i:=hl i (by have:=he.1; omega)
  unfold rngAt at hr
  unfold opA loA hiA
  rw [ih]
  show (updI _ _ (max (loA A L i (degA A i).toNat) _),updI _ _ (min (hiA A L i (degA A i).toNat) _))=_
  rw [q.1,q.2,show max (0:Int) (intAt L (i * 2 + 0))=intAt L (i * 2 + 0) by omega,show min (200:Int) (intAt L (i * 2 + 1))=intAt L (i * 2 + 1) by omega]
theorem deg_lt' (hn:2≤n∧n≤10) (ha:∀ i,i < n→angAt A i) (he:eqP A n nl nf nw) {i:Nat} (hi:i < n):(degA A i).toNat < nw∧nw≤91∧0≤degA A i:=by
 have h1:=deg_bd hn ha he i hi
 unfold degA
 omega
theorem gapS_leg (hn:2≤n∧n≤10) (ha:∀ i,i < n→angAt A i) (he:eqP A n nl nf nw) {g:Nat} (hg:g + 1 < n):∀ s∈gapS (boolAt B (g * 1)) (degA A g).toNat (degA A (g + 1)).toNat,legS (faB A n B) nw s:=fun s hs=>by
 have hd:=deg_lt hn ha he (i:=g) (k:=g + 1) (by omega) hg
 have key:∀ k,(degA A g).toNat≤k→k < (degA A (g + 1)).toNat→faB A n B k=boolAt B (g * 1):=fun k k1 k2=>gap_key hn ha he hg k1 k2
 obtain ⟨c,j,k⟩:=s
 cases hb:boolAt B (g * 1) with
 | true =>
  rw [hb] at hs key
  rcases List.mem_append.1 (show (c,j,k)∈dnS true (degA A (g + 1)).toNat ((degA A (g + 1)).toNat - (degA A g).toNat) ++ upS false (degA A g).toNat ((degA A (g + 1)).toNat - (degA A g).toNat) from hs) with h | h
  ·obtain ⟨rfl,u,h1,rfl,rfl⟩:=dnS_mem h
   exact ⟨by omega,by omega,.inl ⟨by omega,key _ (by omega) (by omega)⟩⟩
  ·obtain ⟨rfl,u,h1,rfl,rfl⟩:=upS_mem h
   exact ⟨by omega,by omega,.inl ⟨by omega,key _ (by omega) (by omega)⟩⟩
 | false =>
  rw [hb] at hs key
  rcases List.mem_append.1 (show (c,j,k)∈upS true (degA A g).toNat ((degA A (g + 1)).toNat - (degA A g).toNat) ++ dnS false (degA A (g + 1)).toNat ((degA A (g + 1)).toNat - (degA A g).toNat) from hs) with h | h
  ·obtain ⟨rfl,u,h1,rfl,rfl⟩:=upS_mem h
   exact ⟨by omega,by omega,.inr ⟨by omega,key _ (by omega) (by omega)⟩⟩
  ·obtain ⟨rfl,u,h1,rfl,rfl⟩:=dnS_mem h
   exact ⟨by omega,by omega,.inr ⟨by omega,key _ (by omega) (by omega)⟩⟩
theorem allS_leg (hn:2≤n∧n≤10) (ha:∀ i,i < n→angAt A i) (he:eqP A n nl nf nw):∀ s∈allS A B (n - 1),legS (faB A n B) nw s:=fun s hs=>by
 obtain ⟨g,h1,h2⟩:=allS_mem hs
 exact gapS_leg hn ha he (by omega) s h2
theorem fix_stab (hn:2≤n∧n≤10) (ha:∀ i,i < n→angAt A i) (he:eqP A n nl nf nw) {x:XX} (h:EqX (stG A B x (n - 1)) x):StabX (faB A n B) nw x:=fun k hk=>by
 rw [← run_all] at h
 have bd:=deg_lt' hn ha he (i:=0) (by omega)
 have fix:=runS_fix (allS A B (n - 1)) x (fun s hs=>by
  have hleg:=allS_leg (B:=B) hn ha he s hs
  obtain ⟨c,j,k⟩:=s
  cases c with
  | true=>have h1:=hleg.1; have h2:=hleg.2.1; exact ⟨by show j < 91; omega,by show k < 91; omega⟩
  | false=>have h1:=hleg.1; have h2:=hleg.2.1; exact ⟨by show j < 91; omega,by show k < 91; omega⟩) h
 have hnw:(nw:Int)=degI A n:=he.2.2
 have h0:=deg_lt' hn ha he (i:=0) (by omega)
 have hl:=deg_lt' hn ha he (i:=n - 1) (by omega)
 have hlast:k < (degA A (0 + (n - 1))).toNat:=by
  rw [Nat.zero_add]
  unfold degI at hnw
  have hq:=hl.2.2
  unfold degA at hq ⊢
  omega
 have hfirst:(degA A 0).toNat≤k:=by unfold degA; omega
 obtain ⟨g,g1,g2,g3,g4⟩:=gap_in hn ha he (n - 1) 0 k (by omega) hfirst hlast
 have key:=gap_key (B:=B) hn ha he (g:=g) (k:=k) (by omega) g3 g4
 refine ⟨fun hf=>?_,fun hf=>?_⟩
 ·rw [hf] at key
  have m1:(true,k,k + 1)∈gapS (boolAt B (g * 1)) (degA A g).toNat (degA A (g + 1)).toNat:=by
   rw [← key]
   refine List.mem_append_left _ ?_
   have:=dnS_has (c:=true) (q:=(degA A (g + 1)).toNat) (u:=(degA A (g + 1)).toNat - k - 1) (t:=(degA A (g + 1)).toNat - (degA A g).toNat) (by omega)
   rw [show (degA A (g + 1)).toNat - ((degA A (g + 1)).toNat - k - 1)=k + 1 by omega,Nat.add_sub_cancel] at this
   exact this
  have m2:(false,k + 1,k)∈gapS (boolAt B (g * 1)) (degA A g).toNat (degA A (g + 1)).toNat:=by
   rw [← key]
   refine List.mem_append_right _ ?_
   have:=upS_has (c:=false) (p:=(degA A g).toNat) (u:=k - (degA A g).toNat) (t:=(degA A (g + 1)).toNat - (degA A g).toNat) (by omega)
   rw [show (degA A g).toNat + (k - (degA A g).toNat)=k by omega] at this
   exact this
  exact ⟨fix _ (allS_has m1 (by omega)),fix _ (allS_has m2 (by omega))⟩
 ·rw [hf] at key
  have m1:(true,k + 1,k)∈gapS (boolAt B (g * 1)) (degA A g).toNat (degA A (g + 1)).toNat:=by
   rw [← key]
   refine List.mem_append_left _ ?_
   have:=upS_has (c:=true) (p:=(degA A g).toNat) (u:=k - (degA A g).toNat) (t:=(degA A (g + 1)).toNat - (degA A g).toNat) (by omega)
   rw [show (degA A g).toNat + (k - (degA A g).toNat)=k by omega] at this
   exact this
  have m2:(false,k,k + 1)∈gapS (boolAt B (g * 1)) (degA A g).toNat (degA A (g + 1)).toNat:=by
   rw [← key]
   refine List.mem_append_right _ ?_
   have:=dnS_has (c:=false) (q:=(degA A (g + 1)).toNat) (u:=(degA A (g + 1)).toNat - k - 1) (t:=(degA A (g + 1)).toNat - (degA A g).toNat) (by omega)
   rw [show (degA A (g + 1)).toNat - ((degA A (g + 1)).toNat - k - 1)=k + 1 by omega,Nat.add_sub_cancel] at this
   exact this
  exact ⟨fix _ (allS_has m1 (by omega)),fix _ (allS_has m2 (by omega))⟩
theorem init_known (hn:2≤n∧n≤10) (ha:∀ i,i < n→angAt A i) (he:eqP A n nl nf nw) (hl:∀ i,i < nl→rngAt 200 L i):OutX nw (loA A L n,hiA A L n)∧RngX (loA A L n,hiA A L n):=by
 have key:∀ r,r≤n→OutX nw (loA A L r,hiA A L r)∧RngX (loA A L r,hiA A L r):=fun r=>by
  induction r with
  | zero=>exact fun _=>⟨fun k hk=>⟨rfl,rfl⟩,fun k=>by show (0:Int)≤0∧(0:Int)≤200∧(0:Int)≤200∧(200:Int)≤200; omega⟩
  | succ r ih =>
   intro hr
   obtain ⟨i1,i2⟩:=ih (by omega)
   have hd:=deg_lt' hn ha he (i:=r) (by omega)
   have hrg:rngAt 200 L r:=hl r (by have:=he.1; omega)
   unfold rngAt at hrg
   refine ⟨fun k hk=>⟨(updI_ne _ _ (by omega)).trans (i1 k hk).1,(updI_ne _ _ (by omega)).trans (i1 k hk).2⟩,fun k=>?_⟩
   have a:=i2 k
   by_cases e:k=(degA A r).toNat
   ·subst e
    have q1:loA A L (r + 1) (degA A r).toNat=intAt L (r * 2 + 0):=updI_same _ _ _
    have q2:hiA A L (r + 1) (degA A r).toNat=intAt L (r * 2 + 1):=updI_same _ _ _
    show 0≤loA A L (r + 1) _∧loA A L (r + 1) _≤200∧0≤hiA A L (r + 1) _∧hiA A L (r + 1) _≤200
    omega
   ·have q1:loA A L (r + 1) k=loA A L r k:=updI_ne _ _ e
    have q2:hiA A L (r + 1) k=hiA A L r k:=updI_ne _ _ e
    show 0≤loA A L (r + 1) _∧loA A L (r + 1) _≤200∧0≤hiA A L (r + 1) _∧hiA A L (r + 1) _≤200
    rw [q1,q2]
    exact a
 exact key n (Nat.le_refl _)
theorem rnG_known (hn:2≤n∧n≤10) (ha:∀ i,i < n→angAt A i) (he:eqP A n nl nf nw) (hl:∀ i,i < nl→rngAt 200 L i):∀ i,LoOK (faB A n B) A n L (rnG A L B n i).1 nw∧HiOK (faB A n B) A n L (rnG A L B n i).2 nw∧OutX nw (rnG A L B n i)∧RngX (rnG A L B n i)∧LeX (loA A L n,hiA A L n) (rnG A L B n i)
 | 0=>by
  obtain ⟨h1,h2⟩:=init_known hn ha he hl
  show LoOK _ _ _ _ (opA A L n).1 _∧HiOK _ _ _ _ (opA A L n).2 _∧OutX nw (opA A L n)∧RngX (opA A L n)∧LeX _ (opA A L n)
  rw [opA_eq hn ha he hl n (Nat.le_refl _)]
  exact ⟨loA_ok (Nat.le_refl _),hiA_ok (Nat.le_refl _),h1,h2,fun k=>⟨Int.le_refl _,Int.le_refl _⟩⟩
 | i + 1=>by
  obtain ⟨a1,a2,a3,a4,a5⟩:=rnG_known hn ha he hl i
  show LoOK _ _ _ _ (stG A B (rnG A L B n i) (n - 1)).1 _∧HiOK _ _ _ _ (stG A B (rnG A L B n i) (n - 1)).2 _∧OutX nw (stG A B (rnG A L B n i) (n - 1))∧RngX (stG A B (rnG A L B n i) (n - 1))∧LeX _ (stG A B (rnG A L B n i) (n - 1))
  rw [← run_all]
  have lg:=allS_leg (B:=B) hn ha he
  obtain ⟨b1,b2⟩:=runS_ok _ _ a1 a2 lg
  exact ⟨b1,b2,runS_out _ _ a3 lg,runS_rng _ _ a4,a5.trans (runS_le _ _)⟩
theorem rnG_end (hn:2≤n∧n≤10) (ha:∀ i,i < n→angAt A i) (he:eqP A n nl nf nw) (hl:∀ i,i < nl→rngAt 200 L i) {i:Nat} (h:EqX (rnG A L B n (i + 1)) (rnG A L B n i)):EqX (rnG A L B n i) (rdB A n L B nw nw):=fun k hk=>by
 obtain ⟨a1,a2,a3,a4,a5⟩:=rnG_known (B:=B) hn ha he hl i
 obtain ⟨i1,i2⟩:=init_known hn ha he hl
 have hm:0 < nw:=by have:=deg_lt' hn ha he (i:=0) (by omega); omega
 have hd:∀ i,i < n→(degA A i).toNat < nw∧loA A L n (degA A i).toNat=intAt L (i * 2 + 0)∧hiA A L n (degA A i).toNat=intAt L (i * 2 + 1):=fun i hi=>⟨(deg_lt' hn ha he hi).1,loA_at hn ha he n (Nat.le_refl _) hi⟩
 have rl:LeX (loA A L n,hiA A L n) (rdB A n L B nw nw):=fun k=>by
  have:=rd_le A n L B nw k 0 nw
  rw [Nat.zero_add] at this
  exact this
 have r0:∀ k,k < nw→0≤(rdB A n L B nw nw).1 k∧(rdB A n L B nw nw).2 k≤200:=fun k _=>by
  have q1:=rl k
  have q2:=i2 k
  have b1:(loA A L n) k≤(rdB A n L B nw nw).1 k:=q1.1
  have b2:(rdB A n L B nw nw).2 k≤(hiA A L n) k:=q1.2
  have b3:0≤loA A L n k:=q2.1
  have b4:hiA A L n k≤200:=q2.2.2.2
  omega
 have rs:=rd_stab hm hd r0
 obtain ⟨rk1,rk2⟩:=rdB_ok (A:=A) (n:=n) (L:=L) (B:=B) hm nw
 have st:=fix_stab hn ha he (B:=B) (x:=rnG A L B n i) h
 by_cases hkn:k < nw
 ·have u1:=uniqX (F:=faB A n B) (x:=rnG A L B n i) (y:=rdB A n L B nw nw) hd a1 a2 rs r0 rl k hkn
  have u2:=uniqX (F:=faB A n B) (x:=rdB A n L B nw nw) (y:=rnG A L B n i) hd rk1 rk2 st (fun k _=>⟨(a4 k).1,(a4 k).2.2.2⟩) a5 k hkn
  omega
 ·have o1:=a3 k (by omega)
  have o2:=rdB_out (A:=A) (L:=L) (B:=B) (n:=n) (m:=nw) nw i1 k (by omega)
  omega
def sK (f:Nat→Int):Nat→Int
 | 0=>0
 | k + 1=>sK f k + f k
theorem sK_le {f g:Nat→Int}:∀ m,(∀ k,k < m→f k≤g k)→sK f m≤sK g m
 | 0,_=>Int.le_refl _
 | m + 1,h=>by
  have:=sK_le m (fun k hk=>h k (by omega))
  have:=h m (by omega)
  unfold sK
  omega
theorem sK_lt {f g:Nat→Int}:∀ m,(∀ k,k < m→f k≤g k)→(∃ k,k < m∧f k < g k)→sK f m + 1≤sK g m
 | 0,_,⟨k,hk,_⟩=>by omega
 | m + 1,h,⟨k,hk,hl⟩=>by
  unfold sK
  by_cases e:k=m
  ·subst e
   have:=sK_le k (fun j hj=>h j (by omega))
   omega
  ·have:=sK_lt m (fun j hj=>h j (by omega)) ⟨k,by omega,hl⟩
   have:=h m (by omega)
   omega
theorem sK_bd {f:Nat→Int} (c:Int):∀ m,(∀ k,k < m → -c≤f k∧f k≤c) → -(m * c)≤sK f m∧sK f m≤m * c
 | 0,_=>by simp [sK]
 | m + 1,h=>by
  have h1:=sK_bd c m (fun k hk=>h k (by omega))
  have h2:=h m (by omega)
  unfold sK
  have e:((m + 1:Nat):Int) * c=m * c + c:=by rw [Int.natCast_add,Int.add_mul]; simp
  rw [e]
  omega
def zG (A L B:List AV) (n:Nat):Nat→Bool
 | 0=>false
 | i + 1=>chT (rnG A L B n (i + 1)).1 (rnG A L B n i).1 91 0 && chT (rnG A L B n (i + 1)).2 (rnG A L B n i).2 91 0
theorem zG_iff (i:Nat):zG A L B n (i + 1)=true↔EqX (rnG A L B n (i + 1)) (rnG A L B n i):=by
 show (chT _ _ 91 0 && chT _ _ 91 0)=true↔_
 rw [Bool.and_eq_true,chT_iff,chT_iff]
 exact ⟨fun h k hk=>⟨h.1 k (by omega) (by omega),h.2 k (by omega) (by omega)⟩,fun h=>⟨fun k _ hk=>(h k (by omega)).1,fun k _ hk=>(h k (by omega)).2⟩⟩
theorem rnG_le (i:Nat):LeX (rnG A L B n i) (rnG A L B n (i + 1)):=by
 show LeX _ (stG A B (rnG A L B n i) (n - 1))
 rw [← run_all]
 exact runS_le _ _
theorem zG_low (i:Nat) (h:∀ j,j≤i→zG A L B n j=false):sK (fun k=>(rnG A L B n 0).1 k - (rnG A L B n 0).2 k) 91 + i≤sK (fun k=>(rnG A L B n i).1 k - (rnG A L B n i).2 k) 91:=by
 induction i with
 | zero=>show _ + (0:Int)≤_; omega
 | succ i ih =>
  have h1:=ih (fun j hj=>h j (by omega))
  have hz:=h (i + 1) (Nat.le_refl _)
  have hle:=rnG_le (A:=A) (L:=L) (B:=B) (n:=n) i
  have h2:=sK_lt (f:=fun k=>(rnG A L B n i).1 k - (rnG A L B n i).2 k) (g:=fun k=>(rnG A L B n (i + 1)).1 k - (rnG A L B n (i + 1)).2 k) 91 (fun k _=>by have:=hle k; show _ - _≤_ - _; omega) (by
   refine Classical.byContradiction fun hno=>?_
   have:zG A L B n (i + 1)=true:=(zG_iff i).2 (fun k hk=>by
    have q:=hle k
    have q2:¬ (rnG A L B n i).1 k - (rnG A L B n i).2 k < (rnG A L B n (i + 1)).1 k - (rnG A L B n (i + 1)).2 k:=fun c=>hno ⟨k,hk,c⟩
    omega)
   rw [hz] at this
   cases this)
  have e:((i + 1:Nat):Int)=(i:Int) + 1:=by omega
  rw [e]
  omega
theorem zG_bound (hn:2≤n∧n≤10) (ha:∀ i,i < n→angAt A i) (he:eqP A n nl nf nw) (hl:∀ i,i < nl→rngAt 200 L i) (i:Nat) (h:∀ j,j≤i→zG A L B n j=false):i < 40000:=by
 have h1:=zG_low i h
 obtain ⟨-,-,-,r0,-⟩:=rnG_known (B:=B) hn ha he hl 0
 obtain ⟨-,-,-,r1,-⟩:=rnG_known (B:=B) hn ha he hl i
 have b0:=sK_bd (f:=fun k=>(rnG A L B n 0).1 k - (rnG A L B n 0).2 k) 200 91 (fun k _=>by have:=r0 k; show -200≤_ - _∧_ - _≤200; omega)
 have b1:=sK_bd (f:=fun k=>(rnG A L B n i).1 k - (rnG A L B n i).2 k) 200 91 (fun k _=>by have:=r1 k; show -200≤_ - _∧_ - _≤200; omega)
 omega
theorem zG_end (hn:2≤n∧n≤10) (ha:∀ i,i < n→angAt A i) (he:eqP A n nl nf nw) (hl:∀ i,i < nl→rngAt 200 L i) (i:Nat) (h:zG A L B n i=true):EqX (rnG A L B n i) (rdB A n L B nw nw):=by
 cases i with
 | zero=>cases h
 | succ i =>
  have e:=(zG_iff i).1 h
  have q:=rnG_end hn ha he hl e
  exact fun k hk=>⟨(e k hk).1.trans (q k hk).1,(e k hk).2.trans (q k hk).2⟩
end
end
end Go.Proofs.Ytldekgkjofgacaa
