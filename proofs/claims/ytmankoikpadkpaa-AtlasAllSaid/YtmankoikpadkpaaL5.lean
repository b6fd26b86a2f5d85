import Derived.Test.YtmankoikpadkpaaL0
import Derived.Test.YtmankoikpadkpaaFu
import Derived.Test.YtmankoikpadkpaaFw
set_option linter.all false
/- The codes of a page. -/
namespace Go.Proofs.Ytmankoikpadkpaa
open Go Ev
noncomputable section
def pgF (c:List AV) (i k:Nat) (j:Nat):Int:=if j % 4 < i∨(j % 4=i∧j / 4 < k) then intAt (xlC c (j % 4 * 1)) (j / 4 * 1) else 0
theorem tabL_ext {f g:Nat→Int}:∀ {n:Nat},(∀ j,j < n→f j=g j)→tabL f n=tabL g n
 | 0,_=>rfl
 | n + 1,h=>by
  simp only [tabL]
  rw [tabL_ext (fun j hj=>h j (by omega)),h n (by omega)]
theorem tabL_set (f:Nat→Int) (x:Int) {n i:Nat} (h:i < n):(tabL f n).set i x=tabL (fun j=>if j=i then x else f j) n:=by
 apply List.ext_getElem?
 intro j
 by_cases hj:j < n
 ·rw [tabL_at _ n j hj]
  by_cases e:j=i
  ·subst e
   rw [List.getElem?_set_self (by rw [tabL_len]; exact h),if_pos rfl]
  ·rw [List.getElem?_set_ne (Ne.symm e),tabL_at f n j hj,if_neg e]
 ·rw [List.getElem?_eq_none (by rw [List.length_set,tabL_len]; omega),List.getElem?_eq_none (by rw [tabL_len]; omega)]
theorem cI_set {L:List Int} {i:Nat} (h:i < L.length) (x:Int):splice (cI L) i [.v (.int .i64 x)]=cI (L.set i x):=by
 rw [cI_map,cI_map]
 unfold splice
 apply List.ext_getElem?
 intro j
 simp only [List.length_singleton]
 by_cases h1:j < i
 ·rw [List.getElem?_append_left (by rw [List.length_take,List.length_map]; omega),List.getElem?_take,if_pos h1,List.getElem?_map,List.getElem?_map,List.getElem?_set_ne (by omega)]
 ·rw [List.getElem?_append_right (by rw [List.length_take,List.length_map]; omega),List.length_take,List.length_map,Nat.min_eq_left (by omega)]
  by_cases h2:j=i
  ·subst h2
   simp [h]
  ·rw [List.getElem?_append_right (by simp; omega),List.getElem?_drop,List.getElem?_map,List.getElem?_map,List.getElem?_set_ne (by omega)]
   congr 2
   simp only [List.length_singleton]
   omega
def z4:List AV:=[.v (.int .i64 (.ofNat 0)),.v (.int .i64 (.ofNat 0)),.v (.int .i64 (.ofNat 0)),.v (.int .i64 (.ofNat 0))]
theorem rep_app {α:Type} (l:List α):∀ n:Nat,repL (n + 1) l=repL n l ++ l
 | 0=>by simp [repL]
 | n + 1=>by
  show l ++ repL (n + 1) l=(l ++ repL n l) ++ l
  rw [rep_app l n,List.append_assoc]
theorem cI_zero4:∀ n:Nat,repL n z4=cI (tabL (fun _=>0) (n * 4))
 | 0=>rfl
 | n + 1=>by
  rw [rep_app,cI_zero4 n,show (n + 1) * 4=n * 4 + 1 + 1 + 1 + 1 by omega]
  simp only [tabL]
  rw [← cI_app,← cI_app,← cI_app,← cI_app]
  simp only [List.append_assoc]
  rfl
theorem pg_zero (c:List AV) (p:Nat):repL p z4=cI (tabL (pgF c 0 0) (p * 4)):=by
 rw [cI_zero4]
 congr 1
 exact tabL_ext (fun j _=>by unfold pgF; rw [if_neg (by omega)])
theorem pg_set (c:List AV) {p i k:Nat} (hk:k < p) (hi:i < 4):splice (cI (tabL (pgF c i k) (p * 4))) (0 + k * 4 + i * 1) [.v (.int .i64 (intAt (xlC c (i * 1)) (k * 1)))]=cI (tabL (pgF c i (k + 1)) (p * 4)):=by
 rw [cI_set (by rw [tabL_len]; omega),tabL_set _ _ (by omega)]
 congr 1
 refine tabL_ext (fun j hj=>?_)
 by_cases e:j=0 + k * 4 + i * 1
 ·rw [if_pos e]
  unfold pgF
  rw [if_pos (by omega),show j % 4=i by omega,show j / 4=k by omega]
 ·rw [if_neg e]
  unfold pgF
  by_cases h:j % 4 < i∨(j % 4=i∧j / 4 < k)
  ·rw [if_pos h,if_pos (by omega)]
  ·rw [if_neg h,if_neg (by omega)]
theorem pg_row (c:List AV) {p i k:Nat} (hk:p≤k):cI (tabL (pgF c (i + 1) 0) (p * 4))=cI (tabL (pgF c i k) (p * 4)):=by
 congr 1
 refine tabL_ext (fun j hj=>?_)
 unfold pgF
 by_cases h:j % 4 < i∨(j % 4=i∧j / 4 < k)
 ·rw [if_pos h,if_pos (by omega)]
 ·rw [if_neg h,if_neg (by omega)]
theorem rw_load {R:List (Value×List Int)} {i k:Nat} (hi:i < R.length) (hk:k < xlN (cRw R) (i * 1)) (t:TypeId) {d:TypeDesc} (hd:Try.prog.underlying t=some d) (ha:aggD d=false):loadL Try.prog (xlC (cRw R) (i * 1)) (k * 1) t=some (.v (.int .i64 (intAt (xlC (cRw R) (i * 1)) (k * 1)))):=by
 rw [Nat.mul_one i] at hk ⊢
 rw [cRw_n hi] at hk
 rw [cRw_c hi,Nat.mul_one]
 exact cI_load hk t hd ha
theorem den_xl_y {σ:Env} {y x:Value} {n k:Nat} {c:List AV} (h:den σ (.xl y n k c)=some x):x=y:=by
 simp only [den] at h
 split at h
 ·split at h
  ·cases h; rfl
  ·cases h
 ·cases h
theorem one_page (p:Nat) (y:Value) (R:List (Value×List Int)) (L:List Int):OneX [.agg [.v (.int .i64 ((p:Nat):Int)),.xl y R.length 1 (cRw R)]] (fun b=>.agg [.v (.int .i64 ((p:Nat):Int)),.xl y R.length 1 (cRw R),.sl b 0 p p]) (.cells (cI L) 61):=by
 refine ⟨fun σ τ b N B xs hb hf hx r hr=>?_,fun σ τ b N B _ o k=>one_cells (cI_plain L) σ τ b N B o k⟩
 have hxl:∃ x,den τ (.xl y R.length 1 (cRw R))=some x:=by
  cases e:den τ (.xl y R.length 1 (cRw R)) with
  | some x=>exact ⟨x,rfl⟩
  | none=>simp only [denL,den,e] at hx; simp [den,denL] at hx e; simp [e] at hx
 obtain ⟨x,ex⟩:=hxl
 have e2:=den_le (Env.put_le (B:=B) (c:=σ.cap b) hf) _ _ ex
 rw [den_xl_y ex] at e2
 have hs:den (τ.put N B (σ.cap b)) (.sl N 0 p p)=some (.slice (some ⟨B,0,none⟩) p p):=by simp only [den,Env.put_at,Option.map_some]
 have hs1:den σ (.sl b 0 p p)=some (.slice (some ⟨B,0,none⟩) p p):=by simp only [den,hb,Option.map_some]
 rw [show den σ (.agg [.v (.int .i64 ((p:Nat):Int)),.xl y R.length 1 (cRw R),.sl b 0 p p])=(denL σ [.v (.int .i64 ((p:Nat):Int)),.xl y R.length 1 (cRw R),.sl b 0 p p]).map (fun vs=>Value.agg vs.toArray) from rfl] at hr
 rw [show den (τ.put N B (σ.cap b)) (.agg [.v (.int .i64 ((p:Nat):Int)),.xl y R.length 1 (cRw R),.sl N 0 p p])=(denL (τ.put N B (σ.cap b)) [.v (.int .i64 ((p:Nat):Int)),.xl y R.length 1 (cRw R),.sl N 0 p p]).map (fun vs=>Value.agg vs.toArray) from rfl]
 cases e3:den σ (.xl y R.length 1 (cRw R)) with
 | none=>simp only [denL,e3] at hr; simp [den] at hr
 | some x2 =>
  rw [den_xl_y e3] at e3
  simp only [denL,e2,hs,e3,hs1] at hr ⊢
  exact hr
def npC0:Code:=bodyC Try.f40
def npC1:Code:=tlC npC0
def npC2:Code:=tlC npC1
def npC3:Code:=tlC npC2
theorem np_in (p:Nat) (y:Value) (R:List (Value×List Int)) (i:Nat) (hp:p≤39) (hm:R.length≤4) (hl:∀ i,i < R.length→xlN (cRw R) (i * 1)=p) (hi:i < R.length) (w:World):Goes Try.prog 39 (blkB (hdC (tlC (tlC (loopC (tlC (hdC npC2))))))) (⟨[(2,.ptr 1 0),(3,.ptr 3 0),(15,.xl y R.length 1 (cRw R)),(16,.v (.int .i64 (R.length:Int))),(17,.v (.int .i64 ((i:Nat):Int)))],[],4,[(1,.cells [.v (.int .i64 (.ofNat 0)),.v (.slice none 0 0),.v (.slice none 0 0)] 64),(2,.cells (cI (tabL (pgF (cRw R) i 0) (p * 4))) 61),(3,.cells [.v (.int .i64 ((p:Nat):Int)),.xl y R.length 1 (cRw R),.sl 2 0 p p] 64)]⟩) w (LandQ 39 (fun k:CnI p=>⟨[(2,.ptr 1 0),(3,.ptr 3 0),(15,.xl y R.length 1 (cRw R)),(16,.v (.int .i64 (R.length:Int))),(17,.v (.int .i64 ((i:Nat):Int))),(4,.v (.int .i64 ((i:Nat):Int))),(22,.xl (xlY (cRw R) (i * 1)) (xlN (cRw R) (i * 1)) 1 (xlC (cRw R) (i * 1))),(23,.v (.int .i64 ((xlN (cRw R) (i * 1):Nat):Int))),(24,.v (.int .i64 ((k.1:Nat):Int)))],[],4,[(1,.cells [.v (.int .i64 (.ofNat 0)),.v (.slice none 0 0),.v (.slice none 0 0)] 64),(2,.cells (cI (tabL (pgF (cRw R) i k.1) (p * 4))) 61),(3,.cells [.v (.int .i64 ((p:Nat):Int)),.xl y R.length 1 (cRw R),.sl 2 0 p p] 64)]⟩) (fun k=>p≤k.1) w (OutB Try.prog Try.f40 39 (fun b=>.agg [.v (.int .i64 ((p:Nat):Int)),.xl y R.length 1 (cRw R),.sl b 0 p p]) (.cells (cI (tabL (pgF (cRw R) R.length 0) (p * 4))) 61) w)):=by
 refine goes_spine (T':=⟨[(2,.ptr 1 0),(3,.ptr 3 0),(15,.xl y R.length 1 (cRw R)),(16,.v (.int .i64 (R.length:Int))),(17,.v (.int .i64 ((i:Nat):Int))),(4,.v (.int .i64 ((i:Nat):Int))),(5,.xl (xlY (cRw R) (i * 1)) (xlN (cRw R) (i * 1)) 1 (xlC (cRw R) (i * 1)))],[],4,[(1,.cells [.v (.int .i64 (.ofNat 0)),.v (.slice none 0 0),.v (.slice none 0 0)] 64),(2,.cells (cI (tabL (pgF (cRw R) i 0) (p * 4))) 61),(3,.cells [.v (.int .i64 ((p:Nat):Int)),.xl y R.length 1 (cRw R),.sl 2 0 p p] 64)]⟩) (by kernel_rfl) (goes_told Try.checked.mixed known_none 200 (e:=.normal) (ps:=[i < R.length,loadL Try.prog (cRw R) (i * 1) 29=some (.xl (xlY (cRw R) (i * 1)) (xlN (cRw R) (i * 1)) 1 (xlC (cRw R) (i * 1)))]) [.go,.sym,.sym,.go,.go]  (by kernel_rfl) (by kernel_rfl)  ⟨hi,(by rw [Nat.mul_one]; exact cRw_load hi 29 (Try.underlying29) rfl),trivial⟩ rfl) ?_
 refine goes_spine (T':=⟨[(2,.ptr 1 0),(3,.ptr 3 0),(15,.xl y R.length 1 (cRw R)),(16,.v (.int .i64 (R.length:Int))),(17,.v (.int .i64 ((i:Nat):Int))),(4,.v (.int .i64 ((i:Nat):Int))),(22,.xl (xlY (cRw R) (i * 1)) (xlN (cRw R) (i * 1)) 1 (xlC (cRw R) (i * 1))),(23,.v (.int .i64 ((xlN (cRw R) (i * 1):Nat):Int))),(24,.v (.int .i64 ((0:Nat):Int)))],[],4,[(1,.cells [.v (.int .i64 (.ofNat 0)),.v (.slice none 0 0),.v (.slice none 0 0)] 64),(2,.cells (cI (tabL (pgF (cRw R) i 0) (p * 4))) 61),(3,.cells [.v (.int .i64 ((p:Nat):Int)),.xl y R.length 1 (cRw R),.sl 2 0 p p] 64)]⟩) (by kernel_rfl) (goes_told Try.checked.mixed known_none 200 (e:=.normal) (ps:=[]) [.go,.go,.go]  (by kernel_rfl) (by kernel_rfl)  trivial rfl) ?_
 refine goes_blockloop (by kernel_rfl) (fun k:CnI p=>⟨[(2,.ptr 1 0),(3,.ptr 3 0),(15,.xl y R.length 1 (cRw R)),(16,.v (.int .i64 (R.length:Int))),(17,.v (.int .i64 ((i:Nat):Int))),(4,.v (.int .i64 ((i:Nat):Int))),(22,.xl (xlY (cRw R) (i * 1)) (xlN (cRw R) (i * 1)) 1 (xlC (cRw R) (i * 1))),(23,.v (.int .i64 ((xlN (cRw R) (i * 1):Nat):Int))),(24,.v (.int .i64 ((k.1:Nat):Int)))],[],4,[(1,.cells [.v (.int .i64 (.ofNat 0)),.v (.slice none 0 0),.v (.slice none 0 0)] 64),(2,.cells (cI (tabL (pgF (cRw R) i k.1) (p * 4))) 61),(3,.cells [.v (.int .i64 ((p:Nat):Int)),.xl y R.length 1 (cRw R),.sl 2 0 p p] 64)]⟩) (fun k=>p - k.1) (R:=fun k=>p≤k.1) (fun k=>?_) ⟨0,Nat.zero_le _⟩
 obtain ⟨k,hk1⟩:=k
 show (∃ j:CnI p,p - j.1 < p - k∧Goes Try.prog 39 (loopC (tlC (tlC (blkB (hdC (tlC (tlC (loopC (tlC (hdC npC2)))))))))) (⟨[(2,.ptr 1 0),(3,.ptr 3 0),(15,.xl y R.length 1 (cRw R)),(16,.v (.int .i64 (R.length:Int))),(17,.v (.int .i64 ((i:Nat):Int))),(4,.v (.int .i64 ((i:Nat):Int))),(22,.xl (xlY (cRw R) (i * 1)) (xlN (cRw R) (i * 1)) 1 (xlC (cRw R) (i * 1))),(23,.v (.int .i64 ((xlN (cRw R) (i * 1):Nat):Int))),(24,.v (.int .i64 ((k:Nat):Int)))],[],4,[(1,.cells [.v (.int .i64 (.ofNat 0)),.v (.slice none 0 0),.v (.slice none 0 0)] 64),(2,.cells (cI (tabL (pgF (cRw R) i k) (p * 4))) 61),(3,.cells [.v (.int .i64 ((p:Nat):Int)),.xl y R.length 1 (cRw R),.sl 2 0 p p] 64)]⟩) w (Land 39 isN (⟨[(2,.ptr 1 0),(3,.ptr 3 0),(15,.xl y R.length 1 (cRw R)),(16,.v (.int .i64 (R.length:Int))),(17,.v (.int .i64 ((i:Nat):Int))),(4,.v (.int .i64 ((i:Nat):Int))),(22,.xl (xlY (cRw R) (i * 1)) (xlN (cRw R) (i * 1)) 1 (xlC (cRw R) (i * 1))),(23,.v (.int .i64 ((xlN (cRw R) (i * 1):Nat):Int))),(24,.v (.int .i64 ((j.1:Nat):Int)))],[],4,[(1,.cells [.v (.int .i64 (.ofNat 0)),.v (.slice none 0 0),.v (.slice none 0 0)] 64),(2,.cells (cI (tabL (pgF (cRw R) i j.1) (p * 4))) 61),(3,.cells [.v (.int .i64 ((p:Nat):Int)),.xl y R.length 1 (cRw R),.sl 2 0 p p] 64)]⟩) w))∨(p≤k∧Goes Try.prog 39 (loopC (tlC (tlC (blkB (hdC (tlC (tlC (loopC (tlC (hdC npC2)))))))))) (⟨[(2,.ptr 1 0),(3,.ptr 3 0),(15,.xl y R.length 1 (cRw R)),(16,.v (.int .i64 (R.length:Int))),(17,.v (.int .i64 ((i:Nat):Int))),(4,.v (.int .i64 ((i:Nat):Int))),(22,.xl (xlY (cRw R) (i * 1)) (xlN (cRw R) (i * 1)) 1 (xlC (cRw R) (i * 1))),(23,.v (.int .i64 ((xlN (cRw R) (i * 1):Nat):Int))),(24,.v (.int .i64 ((k:Nat):Int)))],[],4,[(1,.cells [.v (.int .i64 (.ofNat 0)),.v (.slice none 0 0),.v (.slice none 0 0)] 64),(2,.cells (cI (tabL (pgF (cRw R) i k) (p * 4))) 61),(3,.cells [.v (.int .i64 ((p:Nat):Int)),.xl y R.length 1 (cRw R),.sl 2 0 p p] 64)]⟩) w (Land 39 (isX 2) (⟨[(2,.ptr 1 0),(3,.ptr 3 0),(15,.xl y R.length 1 (cRw R)),(16,.v (.int .i64 (R.length:Int))),(17,.v (.int .i64 ((i:Nat):Int))),(4,.v (.int .i64 ((i:Nat):Int))),(22,.xl (xlY (cRw R) (i * 1)) (xlN (cRw R) (i * 1)) 1 (xlC (cRw R) (i * 1))),(23,.v (.int .i64 ((xlN (cRw R) (i * 1):Nat):Int))),(24,.v (.int .i64 ((k:Nat):Int)))],[],4,[(1,.cells [.v (.int .i64 (.ofNat 0)),.v (.slice none 0 0),.v (.slice none 0 0)] 64),(2,.cells (cI (tabL (pgF (cRw R) i k) (p * 4))) 61),(3,.cells [.v (.int .i64 ((p:Nat):Int)),.xl y R.length 1 (cRw R),.sl 2 0 p p] 64)]⟩) w))∨Goes Try.prog 39 (loopC (tlC (tlC (blkB (hdC (tlC (tlC (loopC (tlC (hdC npC2)))))))))) (⟨[(2,.ptr 1 0),(3,.ptr 3 0),(15,.xl y R.length 1 (cRw R)),(16,.v (.int .i64 (R.length:Int))),(17,.v (.int .i64 ((i:Nat):Int))),(4,.v (.int .i64 ((i:Nat):Int))),(22,.xl (xlY (cRw R) (i * 1)) (xlN (cRw R) (i * 1)) 1 (xlC (cRw R) (i * 1))),(23,.v (.int .i64 ((xlN (cRw R) (i * 1):Nat):Int))),(24,.v (.int .i64 ((k:Nat):Int)))],[],4,[(1,.cells [.v (.int .i64 (.ofNat 0)),.v (.slice none 0 0),.v (.slice none 0 0)] 64),(2,.cells (cI (tabL (pgF (cRw R) i k) (p * 4))) 61),(3,.cells [.v (.int .i64 ((p:Nat):Int)),.xl y R.length 1 (cRw R),.sl 2 0 p p] 64)]⟩) w (fun e a w'=>e = .ret∧(OutB Try.prog Try.f40 39 (fun b=>.agg [.v (.int .i64 ((p:Nat):Int)),.xl y R.length 1 (cRw R),.sl b 0 p p]) (.cells (cI (tabL (pgF (cRw R) R.length 0) (p * 4))) 61) w) .ret a w')
 have hpl:=hl i hi
 cases hq1:(ltI ((k:Nat):Int) ((xlN (cRw R) (i * 1):Nat):Int)) with
 | true =>
  have ghq1:=ltI_true hq1
  have hkp:k < p:=by omega
  refine .inl ⟨⟨k + 1,by omega⟩,(by show p - (k + 1) < p - k; omega),?_⟩
  show Goes Try.prog 39 (loopC (tlC (tlC (blkB (hdC (tlC (tlC (loopC (tlC (hdC npC2)))))))))) (⟨[(2,.ptr 1 0),(3,.ptr 3 0),(15,.xl y R.length 1 (cRw R)),(16,.v (.int .i64 (R.length:Int))),(17,.v (.int .i64 ((i:Nat):Int))),(4,.v (.int .i64 ((i:Nat):Int))),(22,.xl (xlY (cRw R) (i * 1)) (xlN (cRw R) (i * 1)) 1 (xlC (cRw R) (i * 1))),(23,.v (.int .i64 ((xlN (cRw R) (i * 1):Nat):Int))),(24,.v (.int .i64 ((k:Nat):Int)))],[],4,[(1,.cells [.v (.int .i64 (.ofNat 0)),.v (.slice none 0 0),.v (.slice none 0 0)] 64),(2,.cells (cI (tabL (pgF (cRw R) i k) (p * 4))) 61),(3,.cells [.v (.int .i64 ((p:Nat):Int)),.xl y R.length 1 (cRw R),.sl 2 0 p p] 64)]⟩) w (Land 39 isN (⟨[(2,.ptr 1 0),(3,.ptr 3 0),(15,.xl y R.length 1 (cRw R)),(16,.v (.int .i64 (R.length:Int))),(17,.v (.int .i64 ((i:Nat):Int))),(4,.v (.int .i64 ((i:Nat):Int))),(22,.xl (xlY (cRw R) (i * 1)) (xlN (cRw R) (i * 1)) 1 (xlC (cRw R) (i * 1))),(23,.v (.int .i64 ((xlN (cRw R) (i * 1):Nat):Int))),(24,.v (.int .i64 (((k + 1):Nat):Int)))],[],4,[(1,.cells [.v (.int .i64 (.ofNat 0)),.v (.slice none 0 0),.v (.slice none 0 0)] 64),(2,.cells (cI (tabL (pgF (cRw R) i (k + 1)) (p * 4))) 61),(3,.cells [.v (.int .i64 ((p:Nat):Int)),.xl y R.length 1 (cRw R),.sl 2 0 p p] 64)]⟩) w)
  rw [← pg_set (cRw R) hkp (show i < 4 by omega)]
  exact goes_told Try.checked.mixed known_none 200 (e:=.normal) (ps:=[ltI ((k:Nat):Int) ((xlN (cRw R) (i * 1):Nat):Int)=true,k < xlN (cRw R) (i * 1),loadL Try.prog (xlC (cRw R) (i * 1)) (k * 1) 3=some (.v (.int .i64 (intAt (xlC (cRw R) (i * 1)) (k * 1)))),k < p,i < 4,0 + k * 4 + i * 1 + (AV.v (Value.int IntKind.i64 (intAt (xlC (cRw R) (i * 1)) (k * 1)))).cells.length≤(cI (tabL (pgF (cRw R) i k) (p * 4))).length,inR IntKind.i64 ((k:Int) + 1)])
   [.go,.b true,.go,.sym,.sym,.go,.go,.go,.go,.go,.go,.go,.sym,.sym,.sym,.go,.go]  (by kernel_rfl) (by kernel_rfl)  ⟨hq1,by omega,(rw_load hi (by rw [hl i hi]; exact hkp) 3 (Try.underlying3) rfl),hkp,by omega,(by rw [cI_len,tabL_len]; show 0 + k * 4 + i * 1 + 1≤p * 4; omega),(by show -9223372036854775808≤_∧_≤9223372036854775807; constructor <;> omega),trivial⟩ rfl
 | false =>
  have ghq1:=ltI_false hq1
  exact .inr (.inl ⟨by omega,goes_told Try.checked.mixed known_none 200 (e:=.exit 2) (ps:=[ltI ((k:Nat):Int) ((xlN (cRw R) (i * 1):Nat):Int)=false]) [.go,.b false]  (by kernel_rfl) (by kernel_rfl)  ⟨hq1,trivial⟩ rfl⟩)
theorem np_2 (p:Nat) (y:Value) (R:List (Value×List Int)) (hp:p≤39) (hm:R.length≤4) (hl:∀ i,i < R.length→xlN (cRw R) (i * 1)=p) (w:World) (hc:∀ i:CnI R.length,R.length≤i.1→Goes Try.prog 39 npC3 (⟨[(2,.ptr 1 0),(3,.ptr 3 0),(15,.xl y R.length 1 (cRw R)),(16,.v (.int .i64 (R.length:Int))),(17,.v (.int .i64 ((i.1:Nat):Int)))],[],4,[(1,.cells [.v (.int .i64 (.ofNat 0)),.v (.slice none 0 0),.v (.slice none 0 0)] 64),(2,.cells (cI (tabL (pgF (cRw R) i.1 0) (p * 4))) 61),(3,.cells [.v (.int .i64 ((p:Nat):Int)),.xl y R.length 1 (cRw R),.sl 2 0 p p] 64)]⟩) w (OutB Try.prog Try.f40 39 (fun b=>.agg [.v (.int .i64 ((p:Nat):Int)),.xl y R.length 1 (cRw R),.sl b 0 p p]) (.cells (cI (tabL (pgF (cRw R) R.length 0) (p * 4))) 61) w)):Goes Try.prog 39 npC2 (⟨[(2,.ptr 1 0),(3,.ptr 3 0)],[],4,[(1,.cells [.v (.int .i64 (.ofNat 0)),.v (.slice none 0 0),.v (.slice none 0 0)] 64),(2,.cells (cI (tabL (pgF (cRw R) 0 0) (p * 4))) 61),(3,.cells [.v (.int .i64 ((p:Nat):Int)),.xl y R.length 1 (cRw R),.sl 2 0 p p] 64)]⟩) w (OutB Try.prog Try.f40 39 (fun b=>.agg [.v (.int .i64 ((p:Nat):Int)),.xl y R.length 1 (cRw R),.sl b 0 p p]) (.cells (cI (tabL (pgF (cRw R) R.length 0) (p * 4))) 61) w):=by
 refine goes_spineQ (ι:=CnI R.length) (T:=fun i=>⟨[(2,.ptr 1 0),(3,.ptr 3 0),(15,.xl y R.length 1 (cRw R)),(16,.v (.int .i64 (R.length:Int))),(17,.v (.int .i64 ((i.1:Nat):Int)))],[],4,[(1,.cells [.v (.int .i64 (.ofNat 0)),.v (.slice none 0 0),.v (.slice none 0 0)] 64),(2,.cells (cI (tabL (pgF (cRw R) i.1 0) (p * 4))) 61),(3,.cells [.v (.int .i64 ((p:Nat):Int)),.xl y R.length 1 (cRw R),.sl 2 0 p p] 64)]⟩) (R:=fun i=>R.length≤i.1) (by kernel_rfl)
  (goes_spine (T':=⟨[(2,.ptr 1 0),(3,.ptr 3 0),(15,.xl y R.length 1 (cRw R)),(16,.v (.int .i64 (R.length:Int))),(17,.v (.int .i64 ((0:Nat):Int)))],[],4,[(1,.cells [.v (.int .i64 (.ofNat 0)),.v (.slice none 0 0),.v (.slice none 0 0)] 64),(2,.cells (cI (tabL (pgF (cRw R) 0 0) (p * 4))) 61),(3,.cells [.v (.int .i64 ((p:Nat):Int)),.xl y R.length 1 (cRw R),.sl 2 0 p p] 64)]⟩) (by kernel_rfl) (goes_told Try.checked.mixed known_none 200 (e:=.normal) (ps:=[]) [.go,.go,.go,.go,.go]  (by kernel_rfl) (by kernel_rfl)  trivial rfl)
   (goes_blockstep (by kernel_rfl) (fun i:CnI R.length=>⟨[(2,.ptr 1 0),(3,.ptr 3 0),(15,.xl y R.length 1 (cRw R)),(16,.v (.int .i64 (R.length:Int))),(17,.v (.int .i64 ((i.1:Nat):Int)))],[],4,[(1,.cells [.v (.int .i64 (.ofNat 0)),.v (.slice none 0 0),.v (.slice none 0 0)] 64),(2,.cells (cI (tabL (pgF (cRw R) i.1 0) (p * 4))) 61),(3,.cells [.v (.int .i64 ((p:Nat):Int)),.xl y R.length 1 (cRw R),.sl 2 0 p p] 64)]⟩) (fun i=>R.length - i.1) (fun i=>?_) ⟨0,Nat.zero_le _⟩)) hc
 obtain ⟨i,hi1⟩:=i
 show Goes Try.prog 39 (loopC (tlC (hdC npC2))) (⟨[(2,.ptr 1 0),(3,.ptr 3 0),(15,.xl y R.length 1 (cRw R)),(16,.v (.int .i64 (R.length:Int))),(17,.v (.int .i64 ((i:Nat):Int)))],[],4,[(1,.cells [.v (.int .i64 (.ofNat 0)),.v (.slice none 0 0),.v (.slice none 0 0)] 64),(2,.cells (cI (tabL (pgF (cRw R) i 0) (p * 4))) 61),(3,.cells [.v (.int .i64 ((p:Nat):Int)),.xl y R.length 1 (cRw R),.sl 2 0 p p] 64)]⟩) w _
 cases hq1:(ltI ((i:Nat):Int) (R.length:Int)) with
 | true =>
  have ghq1:=ltI_true hq1
  have hi:i < R.length:=by omega
  refine goes_spine (T':=⟨[(2,.ptr 1 0),(3,.ptr 3 0),(15,.xl y R.length 1 (cRw R)),(16,.v (.int .i64 (R.length:Int))),(17,.v (.int .i64 ((i:Nat):Int))),(18,.v (.bool (ltI ((i:Nat):Int) (R.length:Int))))],[],4,[(1,.cells [.v (.int .i64 (.ofNat 0)),.v (.slice none 0 0),.v (.slice none 0 0)] 64),(2,.cells (cI (tabL (pgF (cRw R) i 0) (p * 4))) 61),(3,.cells [.v (.int .i64 ((p:Nat):Int)),.xl y R.length 1 (cRw R),.sl 2 0 p p] 64)]⟩) (by kernel_rfl) (goes_told Try.checked.mixed known_none 200 (e:=.normal) (ps:=[]) [.go]  (by kernel_rfl) (by kernel_rfl)  trivial rfl) ?_
  refine goes_spine (T':=⟨[(2,.ptr 1 0),(3,.ptr 3 0),(15,.xl y R.length 1 (cRw R)),(16,.v (.int .i64 (R.length:Int))),(17,.v (.int .i64 ((i:Nat):Int)))],[],4,[(1,.cells [.v (.int .i64 (.ofNat 0)),.v (.slice none 0 0),.v (.slice none 0 0)] 64),(2,.cells (cI (tabL (pgF (cRw R) i 0) (p * 4))) 61),(3,.cells [.v (.int .i64 ((p:Nat):Int)),.xl y R.length 1 (cRw R),.sl 2 0 p p] 64)]⟩) (by kernel_rfl) (goes_told Try.checked.mixed known_none 200 (e:=.normal) (ps:=[ltI ((i:Nat):Int) (R.length:Int)=true]) [.b true]  (by kernel_rfl) (by kernel_rfl)  ⟨hq1,trivial⟩ rfl) ?_
  refine step_spine (κ:=CnI p) (S:=fun k=>⟨[(2,.ptr 1 0),(3,.ptr 3 0),(15,.xl y R.length 1 (cRw R)),(16,.v (.int .i64 (R.length:Int))),(17,.v (.int .i64 ((i:Nat):Int))),(4,.v (.int .i64 ((i:Nat):Int))),(22,.xl (xlY (cRw R) (i * 1)) (xlN (cRw R) (i * 1)) 1 (xlC (cRw R) (i * 1))),(23,.v (.int .i64 ((xlN (cRw R) (i * 1):Nat):Int))),(24,.v (.int .i64 ((k.1:Nat):Int)))],[],4,[(1,.cells [.v (.int .i64 (.ofNat 0)),.v (.slice none 0 0),.v (.slice none 0 0)] 64),(2,.cells (cI (tabL (pgF (cRw R) i k.1) (p * 4))) 61),(3,.cells [.v (.int .i64 ((p:Nat):Int)),.xl y R.length 1 (cRw R),.sl 2 0 p p] 64)]⟩) (RS:=fun k=>p≤k.1) (by kernel_rfl) (goes_blkQ (by kernel_rfl) (np_in p y R i hp hm hl hi w)) (fun k hk=>?_)
  refine step_on ⟨i + 1,by omega⟩ (by show R.length - (i + 1) < R.length - i; omega) ?_
  show Goes Try.prog 39 (tlC (tlC (tlC (loopC (tlC (hdC npC2)))))) (⟨[(2,.ptr 1 0),(3,.ptr 3 0),(15,.xl y R.length 1 (cRw R)),(16,.v (.int .i64 (R.length:Int))),(17,.v (.int .i64 ((i:Nat):Int))),(4,.v (.int .i64 ((i:Nat):Int))),(22,.xl (xlY (cRw R) (i * 1)) (xlN (cRw R) (i * 1)) 1 (xlC (cRw R) (i * 1))),(23,.v (.int .i64 ((xlN (cRw R) (i * 1):Nat):Int))),(24,.v (.int .i64 ((k.1:Nat):Int)))],[],4,[(1,.cells [.v (.int .i64 (.ofNat 0)),.v (.slice none 0 0),.v (.slice none 0 0)] 64),(2,.cells (cI (tabL (pgF (cRw R) i k.1) (p * 4))) 61),(3,.cells [.v (.int .i64 ((p:Nat):Int)),.xl y R.length 1 (cRw R),.sl 2 0 p p] 64)]⟩) w (Land 39 isN (⟨[(2,.ptr 1 0),(3,.ptr 3 0),(15,.xl y R.length 1 (cRw R)),(16,.v (.int .i64 (R.length:Int))),(17,.v (.int .i64 (((i + 1):Nat):Int)))],[],4,[(1,.cells [.v (.int .i64 (.ofNat 0)),.v (.slice none 0 0),.v (.slice none 0 0)] 64),(2,.cells (cI (tabL (pgF (cRw R) (i + 1) 0) (p * 4))) 61),(3,.cells [.v (.int .i64 ((p:Nat):Int)),.xl y R.length 1 (cRw R),.sl 2 0 p p] 64)]⟩) w)
  rw [pg_row (cRw R) (i:=i) hk]
  exact goes_told Try.checked.mixed known_none 200 (e:=.normal) (ps:=[inR IntKind.i64 ((i:Int) + 1)]) [.go,.go]  (by kernel_rfl) (by kernel_rfl)  ⟨(by show -9223372036854775808≤_∧_≤9223372036854775807; constructor <;> omega),trivial⟩ rfl
 | false =>
  have ghq1:=ltI_false hq1
  exact step_out (by show R.length≤i; omega) (goes_told Try.checked.mixed known_none 200 (e:=.exit 0) (ps:=[ltI ((i:Nat):Int) (R.length:Int)=false]) [.go,.b false]  (by kernel_rfl) (by kernel_rfl)  ⟨hq1,trivial⟩ rfl)
theorem np_g (p:Nat) (y:Value) (R:List (Value×List Int)) (hp:p≤39) (hm:R.length≤4) (hl:∀ i,i < R.length→xlN (cRw R) (i * 1)=p):GivesBX Try.prog 40 [.agg [.v (.int .i64 ((p:Nat):Int)),.xl y R.length 1 (cRw R)]] (fun b=>.agg [.v (.int .i64 ((p:Nat):Int)),.xl y R.length 1 (cRw R),.sl b 0 p p]) (.cells (cI (tabL (pgF (cRw R) R.length 0) (p * 4))) 61) :=
 givesBX_parts 39 Try.func40 (by kernel_rfl) (by kernel_rfl) (by kernel_rfl) (one_page p y R _) (fun w=>by
  refine goes_spine (c:=npC0) (T':=⟨[(1,.ptr 0 0),(2,.ptr 1 0)],[],2,[(0,.cells [.v (.int .i64 ((p:Nat):Int)),.xl y R.length 1 (cRw R)] 24),(1,.cells [.v (.int .i64 (.ofNat 0)),.v (.slice none 0 0),.v (.slice none 0 0)] 64)]⟩) (by kernel_rfl) (goes_told Try.checked.mixed known_none 200 (e:=.normal) (ps:=[]) [.go,.go]  (by kernel_rfl) (by kernel_rfl)  trivial rfl) ?_
  refine goes_spine (c:=npC1) (T':=⟨[(2,.ptr 1 0),(3,.ptr 3 0)],[],4,[(1,.cells [.v (.int .i64 (.ofNat 0)),.v (.slice none 0 0),.v (.slice none 0 0)] 64),(2,.cells (cI (tabL (pgF (cRw R) 0 0) (p * 4))) 61),(3,.cells [.v (.int .i64 ((p:Nat):Int)),.xl y R.length 1 (cRw R),.sl 2 0 p p] 64)]⟩) (by kernel_rfl) ?_ (np_2 p y R hp hm hl w (fun i hi=>?_))
  ·rw [← pg_zero (cRw R) p]
   exact goes_told Try.checked.mixed known_none 200 (e:=.normal) (ps:=[p≤p,p≤1000000]) [.go,.go,.go,.sym,.go,.go,.go]  (by kernel_rfl) (by kernel_rfl)  ⟨Nat.le_refl _,by omega,trivial⟩ rfl
  ·obtain ⟨i,hi1⟩:=i
   obtain rfl:i=R.length:=Nat.le_antisymm hi1 hi
   exact goes_outB Try.checked.mixed known_none 200 (ps:=[]) [.go,.go] 2 (by kernel_rfl) (by kernel_rfl) trivial)
end
end Go.Proofs.Ytmankoikpadkpaa
