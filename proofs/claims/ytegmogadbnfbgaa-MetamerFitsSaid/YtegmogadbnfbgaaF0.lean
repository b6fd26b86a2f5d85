import Derived.Test.YtegmogadbnfbgaaGs
import Derived.Test.YtegmogadbnfbgaaAu
set_option linter.all false
/- Mathematics of palettes: lists of flags, spectra of sets. -/
namespace Go.Proofs.Ytegmogadbnfbgaa
open Go Ev
noncomputable section
def Ev.fam0 {α:Type} (a:α) (f:Nat→α):Nat→α
 | 0=>a
 | n + 1=>f n
theorem fam0_goesK {α:Type} {P:α→Prop} {a:α} {f:Nat→α} {n:Nat} (hz:n=0→P a) (hs:∀ k,n=k + 1→P (f k)):P (Ev.fam0 a f n):=by
 cases n with
 | zero=>exact hz rfl
 | succ n=>exact hs n rfl
def flt (st:Nat→Bool):Nat→List Int
 | 0=>[]
 | j + 1=>if st j then flt st j ++ [((j:Nat):Int)] else flt st j
theorem flt_t {st:Nat→Bool} {j:Nat} (h:st j=true):flt st (j + 1)=flt st j ++ [((j:Nat):Int)]:=by simp only [flt,h,if_true]
theorem flt_f {st:Nat→Bool} {j:Nat} (h:st j=false):flt st (j + 1)=flt st j:=by simp only [flt,h,Bool.false_eq_true,if_false]
theorem flt_le (st:Nat→Bool):∀ j,(flt st j).length≤j
 | 0=>Nat.le_refl _
 | j + 1=>by
  have:=flt_le st j
  simp only [flt]
  split
  ·rw [List.length_append,List.length_singleton]; omega
  ·omega
theorem flt_mono (st:Nat→Bool):∀ {k n:Nat},k≤n→(flt st k).length≤(flt st n).length
 | k,0,h=>by rw [show k=0 by omega]; exact Nat.le_refl _
 | k,n + 1,h=>by
  by_cases e:k=n + 1
  ·rw [e]; exact Nat.le_refl _
  ·have:=flt_mono st (show k≤n by omega)
   simp only [flt]
   split
   ·rw [List.length_append,List.length_singleton]; omega
   ·exact this
theorem flt_lenT {st:Nat→Bool} {j k:Nat} (h:st j=true) (hc:(flt st j).length=k):(flt st (j + 1)).length=k + 1:=by rw [flt_t h,List.length_append,hc]; rfl
theorem flt_lenF {st:Nat→Bool} {j k:Nat} (h:st j=false) (hc:(flt st j).length=k):(flt st (j + 1)).length=k:=by rw [flt_f h,hc]
theorem flt_rowT {st:Nat→Bool} {j:Nat} (h:st j=true):cI (flt st (j + 1))=cI (flt st j) ++ [.v (.int .i64 ((j:Nat):Int))]:=by rw [flt_t h,← cI_app]; rfl
theorem flt_rowF {st:Nat→Bool} {j:Nat} (h:st j=false):cI (flt st (j + 1))=cI (flt st j):=by rw [flt_f h]
theorem takeF {l:List Int} {k:Nat} (h:l.length=k):List.take (k * 1) (List.drop 0 (cI l))=cI l:=by
 rw [List.drop_zero,List.take_of_length_le (by rw [cI_len]; omega)]
theorem flt_nil {st:Nat→Bool} {j:Nat} (h:(flt st j).length=0):cI (flt st j)=[]:=by rw [List.eq_nil_of_length_eq_zero h]; rfl
def tI:(Nat→Int)→Nat→List Int:=Classical.choose (⟨tabL,fun _ _=>rfl⟩:∃ g:(Nat→Int)→Nat→List Int,∀ f n,g f n=tabL f n)
theorem tI_eq (f:Nat→Int) (n:Nat):tI f n=tabL f n:=Classical.choose_spec (⟨tabL,fun _ _=>rfl⟩:∃ g:(Nat→Int)→Nat→List Int,∀ f n,g f n=tabL f n) f n
theorem tI_len (f:Nat→Int) (n:Nat):(tI f n).length=n:=by rw [tI_eq,tabL_len]
theorem tI_at {f:Nat→Int} {n j:Nat} (h:j < n):(tI f n)[j]? = some (f j):=by rw [tI_eq]; exact tabL_at f n j h
theorem tI_int {f:Nat→Int} {n j:Nat} (h:j < n):intAt (cI (tI f n)) j=f j:=by
 rw [cI_int (show j < (tI f n).length by rw [tI_len]; exact h)]
 have h1:=tI_at (f:=f) h
 rw [List.getElem?_eq_getElem (by rw [tI_len]; exact h)] at h1
 exact Option.some.inj h1
theorem tI_ext {f g:Nat→Int} {n:Nat} (h:∀ j,j < n→f j=g j):tI f n=tI g n:=by
 apply List.ext_getElem?
 intro j
 by_cases e:j < n
 ·rw [tI_at e,tI_at e,h j e]
 ·rw [List.getElem?_eq_none (by rw [tI_len]; omega),List.getElem?_eq_none (by rw [tI_len]; omega)]
def updI (f:Nat→Int) (x:Nat) (v:Int):Nat→Int:=fun j=>if j=x then v else f j
theorem cI_set {L:List Int} {i:Nat} (h:i < L.length) (x:Int):splice (cI L) i [.v (.int .i64 x)]=cI (L.set i x):=by
 rw [cI_map,cI_map]
 unfold splice
 apply List.ext_getElem?
 intro j
 simp only [List.length_singleton]
 by_cases h1:j < i
 ·rw [List.getElem?_append_left (by rw [List.length_take,List.length_map]; omega),List.getElem?_take,if_pos h1,List.getElem?_map,List.getElem?_map,List.getElem?_set_ne (by omega)]
 ·rw [List.getElem?_append_right (by rw [List.length_take,List.length_map]; omega),List.length_take,List.length_map,Nat.min_eq_left (by omega)]
  by_cases h2:j=i
  ·subst h2
   simp [h]
  ·rw [List.getElem?_append_right (by simp; omega),List.getElem?_drop,List.getElem?_map,List.getElem?_map,List.getElem?_set_ne (by omega)]
   congr 2
   simp only [List.length_singleton]
   omega
theorem tI_set {f:Nat→Int} {n x:Nat} (h:x < n) (v:Int):splice (cI (tI f n)) x [.v (.int .i64 v)]=cI (tI (updI f x v) n):=by
 rw [cI_set (by rw [tI_len]; exact h)]
 congr 1
 apply List.ext_getElem?
 intro j
 rw [List.getElem?_set,tI_len]
 by_cases e:j < n
 ·rw [tI_at e,tI_at e]
  unfold updI
  by_cases e2:x=j
  ·rw [if_pos e2,if_pos h,if_pos e2.symm]
  ·rw [if_neg e2,if_neg (fun h=>e2 h.symm)]
 ·rw [List.getElem?_eq_none (l:=tI (updI f x v) n) (by rw [tI_len]; omega),List.getElem?_eq_none (l:=tI f n) (by rw [tI_len]; omega)]
  rw [if_neg (by omega)]
theorem freeL_plainR:∀ R:List (Value×List Int),FreeL (cRw R)
 | []=>freeL_nil
 | r :: l=>freeL_cons (freeL_xl (freeL_plain (cI_plain _))) (freeL_plainR l)
theorem nb_free {K:Nat} {v:AV} (h:FreeL [v]):NB K v:=fun σ x e=>by
 have:=h σ (σ.cut K) rfl [x] (by simp only [denL,e])
 simp only [denL] at this
 split at this
 ·rename_i y z e1 e2
  cases e2
  cases this
  exact e1
 ·cases this
theorem nr_free {rs:List Nat} {v:AV} (h:FreeL [v]):NR rs v v:=fun σ x e=>by
 have:=h σ (σ.ren rs) rfl [x] (by simp only [denL,e])
 simp only [denL] at this
 split at this
 ·rename_i y z e1 e2
  cases e2
  cases this
  exact e1
 ·cases this
def afP (lo hi:Int) (c:List AV) (n:Nat):Prop:=∀ i,i < n→lo≤intAt c (i * 1)∧intAt c (i * 1)≤hi
instance (lo hi:Int) (c:List AV) (n:Nat):Decidable (afP lo hi c n):=by unfold afP; exact inferInstance
def afB (lo hi:Int) (c:List AV) (n:Nat):Bool:=decide (afP lo hi c n)
theorem afB_true {lo hi:Int} {c:List AV} {n:Nat}:afB lo hi c n=true↔afP lo hi c n:=by unfold afB; rw [decide_eq_true_eq]
theorem afB_false {lo hi:Int} {c:List AV} {n:Nat}:afB lo hi c n=false↔¬ afP lo hi c n:=by unfold afB; rw [decide_eq_false_iff_not]
theorem afB_no {lo hi:Int} {c:List AV} {n i:Nat} (hi2:i < n) (h:¬ (lo≤intAt c (i * 1)∧intAt c (i * 1)≤hi)):afB lo hi c n=false:=afB_false.2 (fun k=>h (k i hi2))
def eqAt (c:List AV) (i:Nat):Prop:=xlN c (i * 1)=xlN c (0 * 1)
def okAt (c:List AV) (i:Nat):Prop:=afB 0 1000 (xlC c (i * 1)) (xlN c (i * 1))=true
open Classical in
def ppE (c:List AV) (n:Nat) (e:Int):Int :=
 if (1≤n∧n≤12)∧1≤xlN c (0 * 1)∧xlN c (0 * 1)≤8 then (if ∀ i,i < n→eqAt c i then (if (∀ i,i < n→okAt c i)∧0≤e∧e≤100 then 0 else 2) else 15) else 6
section
variable {c : List AV} {n i : Nat} {e : Int}
theorem ppE_many (h:¬ ((1≤n∧n≤12)∧1≤xlN c (0 * 1)∧xlN c (0 * 1)≤8)):ppE c n e=6:=if_neg h
theorem ppE_len (h:(1≤n∧n≤12)∧1≤xlN c (0 * 1)∧xlN c (0 * 1)≤8) (hi:i < n) (h2:¬ eqAt c i):ppE c n e=15:=by unfold ppE; rw [if_pos h,if_neg (fun k=>h2 (k i hi))]
theorem ppE_err (h:(1≤n∧n≤12)∧1≤xlN c (0 * 1)∧xlN c (0 * 1)≤8) (h2:∀ i,i < n→eqAt c i) (h3:¬ (0≤e∧e≤100)):ppE c n e=2:=by unfold ppE; rw [if_pos h,if_pos h2,if_neg (fun k=>h3 k.2)]
theorem ppE_bad (h:(1≤n∧n≤12)∧1≤xlN c (0 * 1)∧xlN c (0 * 1)≤8) (h2:∀ i,i < n→eqAt c i) (hi:i < n) (h3:¬ okAt c i):ppE c n e=2:=by unfold ppE; rw [if_pos h,if_pos h2,if_neg (fun k=>h3 (k.1 i hi))]
theorem ppE_ok (h:(1≤n∧n≤12)∧1≤xlN c (0 * 1)∧xlN c (0 * 1)≤8) (h2:∀ i,i < n→eqAt c i) (h3:∀ i,i < n→okAt c i) (h4:0≤e∧e≤100):ppE c n e=0:=by unfold ppE; rw [if_pos h,if_pos h2,if_pos ⟨h3,h4⟩]
theorem ppE_zero (h:ppE c n e=0):((1≤n∧n≤12)∧1≤xlN c (0 * 1)∧xlN c (0 * 1)≤8)∧(∀ i,i < n→eqAt c i)∧(∀ i,i < n→okAt c i)∧0≤e∧e≤100:=by
 unfold ppE at h
 split at h
 ·split at h
  ·split at h
   ·rename_i h1 h2 h3
    exact ⟨h1,h2,h3⟩
   ·omega
  ·omega
 ·omega
end
def spA (c:List AV) (n:Nat) (b:Nat):Int:=if b < n then intAt c (b * 1) else 0
theorem spA_at {c:List AV} {n b:Nat} (h:b < n):spA c n b=intAt c (b * 1):=if_pos h
theorem spA_out {c:List AV} {n b:Nat} (h:n≤b):spA c n b=0:=if_neg (by omega)
theorem spA_bd {c:List AV} {n:Nat} (h:afB 0 1000 c n=true) (b:Nat):0≤spA c n b∧spA c n b≤1000:=by
 by_cases e:b < n
 ·have h1:=afB_true.1 h b e
  rw [spA_at e]; exact h1
 ·rw [spA_out (by omega)]; omega
def bitB (s:Int) (i:Nat):Bool:=decide ((s / 2 ^ i) % 2=1)
def mxI (c:List AV) (s:Int):Nat→Nat→Int
 | 0,_=>0
 | i + 1,b=>if bitB s i then mxI c s i b + spA (xlC c (i * 1)) (xlN c (i * 1)) b else mxI c s i b
theorem mx_t {c:List AV} {s:Int} {i b:Nat} (h:bitB s i=true):mxI c s (i + 1) b=mxI c s i b + spA (xlC c (i * 1)) (xlN c (i * 1)) b:=by rw [mxI,if_pos h]
theorem mx_f {c:List AV} {s:Int} {i b:Nat} (h:bitB s i=false):mxI c s (i + 1) b=mxI c s i b:=by rw [mxI,if_neg (by rw [h]; decide)]
section
variable {c : List AV} {n : Nat} {e s : Int}
theorem pp_row (h:ppE c n e=0) {i:Nat} (hi:i < n):xlN c (i * 1)=xlN c (0 * 1)∧1≤xlN c (i * 1)∧xlN c (i * 1)≤8∧afB 0 1000 (xlC c (i * 1)) (xlN c (i * 1))=true:=by
 obtain ⟨h1,h2,h3,-⟩:=ppE_zero h
 have h4:=h2 i hi
 have h5:=h3 i hi
 have h6:=h1.2
 unfold eqAt at h4
 unfold okAt at h5
 exact ⟨h4,by omega,by omega,h5⟩
theorem mx_bd (h:ppE c n e=0):∀ {i:Nat},i≤n→∀ b,0≤mxI c s i b∧mxI c s i b≤1000 * i
 | 0,_,b=>by simp [mxI]
 | i + 1,hi,b=>by
  have h1:=mx_bd h (show i≤n by omega) b
  have h2:=spA_bd (pp_row h (show i < n by omega)).2.2.2 b
  rw [mxI]
  split <;> omega
theorem mx_12 (h:ppE c n e=0) {i:Nat} (hi:i≤n) (b:Nat):0≤mxI c s i b∧mxI c s i b≤12000:=by
 have h1:=mx_bd (s:=s) h hi b
 have h2:=(ppE_zero h).1.1
 omega
theorem mx_out (h:ppE c n e=0) {b:Nat} (hb:xlN c (0 * 1)≤b):∀ {i:Nat},i≤n→mxI c s i b=0
 | 0,_=>rfl
 | i + 1,hi=>by
  have h1:=mx_out h hb (show i≤n by omega)
  have h2:=(pp_row h (show i < n by omega)).1
  rw [mxI,h1,spA_out (by omega)]
  split <;> rfl
end
def mxS (c:List AV) (s:Int) (i q:Nat):Nat→Int:=fun b=>if b < q then mxI c s (i + 1) b else mxI c s i b
theorem rep_tab {v:Int}:∀ m:Nat,repL m (List.map AV.v (Value.int IntKind.i64 v).cells.toList)=cI (tabL (fun _=>v) m)
 | 0=>rfl
 | m + 1=>by
  have key:∀ m:Nat,tabL (fun _=>v) (m + 1)=v :: tabL (fun _=>v) m:=by
   intro m
   induction m with
   | zero=>rfl
   | succ m ih =>
    show tabL (fun _=>v) (m + 1) ++ [v]=v :: (tabL (fun _=>v) m ++ [v])
    rw [ih]; rfl
  rw [key]
  show _=AV.v (.int .i64 v) :: cI _
  rw [← rep_tab m]
  rfl
theorem mx_z {c:List AV} {s:Int} {m:Nat}:cI (tI (mxI c s 0) m)=repL m (List.map AV.v (Value.int IntKind.i64 0).cells.toList):=by rw [rep_tab,tI_eq]; rfl
theorem mxS_zero {c:List AV} {s:Int} {i m:Nat}:tI (mxS c s i 0) m=tI (mxI c s i) m:=tI_ext (fun j hj=>if_neg (by omega))
theorem mxS_end {c:List AV} {s:Int} {i m:Nat}:tI (mxS c s i m) m=tI (mxI c s (i + 1)) m:=tI_ext (fun j hj=>if_pos hj)
theorem mxS_f {c:List AV} {s:Int} {i q m:Nat} (h:bitB s i=false):tI (mxS c s i (q + 1)) m=tI (mxS c s i q) m:=tI_ext (fun j hj=>by
 unfold mxS
 rw [mx_f h]
 split <;> split <;> rfl)
theorem mxS_t {c:List AV} {s:Int} {i q m:Nat} (h:bitB s i=true) (hq:q < m) (hl:q < xlN c (i * 1)):splice (cI (tI (mxS c s i q) m)) (q * 1) [.v (.int .i64 (intAt (cI (tI (mxS c s i q) m)) (q * 1) + intAt (xlC c (i * 1)) (q * 1)))]=cI (tI (mxS c s i (q + 1)) m):=by
 rw [Nat.mul_one,tI_int hq,tI_set hq]
 congr 1
 refine tI_ext (fun j hj=>?_)
 unfold updI mxS
 by_cases e:j=q
 ·subst e
  rw [if_pos rfl,if_neg (by omega),if_pos (by omega),mx_t h,spA_at hl,Nat.mul_one j]
 ·rw [if_neg e]
  split
  ·rw [if_pos (by omega)]
  ·rw [if_neg (by omega)]
theorem tI_load {f:Nat→Int} {n j:Nat} (h:j < n) (t:TypeId) {d:TypeDesc} (hd:Try.prog.underlying t=some d) (ha:aggD d=false):loadL Try.prog (cI (tI f n)) j t=some (.v (.int .i64 (intAt (cI (tI f n)) j))):=cI_load (by rw [tI_len]; exact h) t hd ha
def nrP (f:Nat→Int) (e:Int) (c:List AV) (n:Nat):Prop:=∀ b,b < n→f b - e≤intAt c (b * 1)∧intAt c (b * 1)≤f b + e
open Classical in
def nrB (f:Nat→Int) (e:Int) (c:List AV) (n:Nat):Bool:=decide (nrP f e c n)
theorem nrB_true {f:Nat→Int} {e:Int} {c:List AV} {n:Nat}:nrB f e c n=true↔nrP f e c n:=@decide_eq_true_iff _ (Classical.propDecidable _)
theorem nrB_false {f:Nat→Int} {e:Int} {c:List AV} {n:Nat}:nrB f e c n=false↔¬ nrP f e c n:=@decide_eq_false_iff_not _ (Classical.propDecidable _)
open Classical in
def nr8 (f g:Nat→Int) (e:Int):Bool:=decide (∀ b,b < 8→f b - e≤g b∧g b≤f b + e)
theorem nr8_eq {c:List AV} {n:Nat} {e s:Int} {d:List AV} {m:Nat} (h:ppE c n e=0) (hM:m=xlN c (0 * 1)):nr8 (mxI c s n) (spA d m) e=nrB (mxI c s n) e d m:=by
 have h0:=(ppE_zero h).1.2
 have he:=(ppE_zero h).2.2.2
 unfold nr8 nrB
 rw [decide_eq_decide]
 constructor
 ·intro k b hb
  rw [← spA_at hb]
  exact k b (by omega)
 ·intro k b hb
  by_cases h2:b < m
  ·have h3:=k b h2
   rw [← spA_at h2] at h3
   exact h3
  ·rw [spA_out (by omega),mx_out h (by omega) (Nat.le_refl _)]
   omega
theorem bit_and (x:Int) (h:0≤x) (h2:x < 2 ^ 62):((BitVec.ofInt 64 x &&& BitVec.ofInt 64 1).toNat:Int)=x % 2:=by
 rw [BitVec.toNat_and,BitVec.toNat_ofInt,BitVec.toNat_ofInt]
 have h3:(x % ((2:Nat) ^ 64:Nat)).toNat=x.toNat:=by
  rw [Int.emod_eq_of_lt h (by omega)]
 have h4:((1:Int) % ((2:Nat) ^ 64:Nat)).toNat=1:=by decide
 rw [h3,h4,Nat.and_one_is_mod]
 omega
theorem bit_div {s:Int} {i:Nat} (h:0≤s) (hi:i≤60):s.fdiv (2 ^ min (((i:Nat):Int)).toNat IntKind.i64.bits)=s / 2 ^ i∧0≤s / 2 ^ i∧s / 2 ^ i≤s:=by
 have h1:min (((i:Nat):Int)).toNat IntKind.i64.bits=i:=by
  rw [Int.toNat_natCast]
  exact Nat.min_eq_left (show i≤64 by omega)
 have h2:(0:Int) < 2 ^ i:=Int.pow_pos (by decide)
 rw [h1]
 exact ⟨Int.fdiv_eq_ediv_of_nonneg _ (by omega),Int.ediv_nonneg h (by omega),Int.ediv_le_self _ h⟩
theorem bit_ours {s:Int} {i:Nat} (h:0≤s∧s≤1000000) (hi:i≤60):eqI (IntKind.i64.wrap (((BitVec.ofInt IntKind.i64.bits (s.fdiv (2 ^ min (((i:Nat):Int)).toNat IntKind.i64.bits)) &&& BitVec.ofInt IntKind.i64.bits 1).toNat:Nat):Int)) 1=bitB s i:=by
 obtain ⟨h1,h2,h3⟩:=bit_div h.1 hi
 rw [h1,show IntKind.i64.bits=64 from rfl,bit_and _ h2 (by omega),IntWalk.i64_in _ (by omega),eqI_iff]
 rfl
theorem bit_ref {s:Int} {i:Nat} (h:0≤s∧s≤1000000) (hi:i≤60):eqI ((s.fdiv (2 ^ min (((i:Nat):Int)).toNat IntKind.i64.bits)).tmod 2) 1=bitB s i:=by
 obtain ⟨h1,h2,h3⟩:=bit_div h.1 hi
 rw [h1,Int.tmod_eq_emod_of_nonneg h2,eqI_iff]
 rfl
def brP (b:Int) (c:List AV) (n:Nat):Prop:=(b < n∧n≤12)∨16 < n∨∃ i,i < n∧12 < xlN c (i * 1)
open Classical in
def brB (b:Int) (c:List AV) (n:Nat):Bool:=decide (brP b c n)
theorem brB_true {b:Int} {c:List AV} {n:Nat}:brB b c n=true↔brP b c n:=@decide_eq_true_iff _ (Classical.propDecidable _)
theorem brB_iff {b:Int} {c:List AV} {n:Nat}:brB b c n=false↔¬ brP b c n:=@decide_eq_false_iff_not _ (Classical.propDecidable _)
theorem brB_many {b:Int} {c:List AV} {n:Nat} (h:(b < n∧n≤12)∨16 < n):brB b c n=true:=brB_true.2 (h.elim .inl (fun h=>.inr (.inl h)))
theorem brB_far {b:Int} {c:List AV} {n i:Nat} (hi:i < n) (h:12 < xlN c (i * 1)):brB b c n=true:=brB_true.2 (.inr (.inr ⟨i,hi,h⟩))
theorem brB_no {b:Int} {c:List AV} {n:Nat} (h:¬ ((b < n∧n≤12)∨16 < n)) (h2:∀ i,i < n→¬ 12 < xlN c (i * 1)):brB b c n=false:=brB_iff.2 (fun k=>by
 rcases k with k | k | ⟨i,k1,k2⟩
 ·exact h (.inl k)
 ·exact h (.inr k)
 ·exact h2 i k1 k2)
def n8P (f g:Nat→Int) (e:Int):Prop:=∀ b,b < 8→f b - e≤g b∧g b≤f b + e
theorem nr8_true {f g:Nat→Int} {e:Int}:nr8 f g e=true↔n8P f g e:=@decide_eq_true_iff _ (Classical.propDecidable _)
theorem nr8_false {f g:Nat→Int} {e:Int}:nr8 f g e=false↔¬ n8P f g e:=@decide_eq_false_iff_not _ (Classical.propDecidable _)
theorem nr8_yes {f g:Nat→Int} {e:Int} (h0:f 0 - e≤g 0∧g 0≤f 0 + e) (h1:f 1 - e≤g 1∧g 1≤f 1 + e) (h2:f 2 - e≤g 2∧g 2≤f 2 + e) (h3:f 3 - e≤g 3∧g 3≤f 3 + e) (h4:f 4 - e≤g 4∧g 4≤f 4 + e) (h5:f 5 - e≤g 5∧g 5≤f 5 + e) (h6:f 6 - e≤g 6∧g 6≤f 6 + e) (h7:f 7 - e≤g 7∧g 7≤f 7 + e):nr8 f g e=true:=nr8_true.2 (fun b hb=>by
 match b,hb with
 | 0,_=>exact h0
 | 1,_=>exact h1
 | 2,_=>exact h2
 | 3,_=>exact h3
 | 4,_=>exact h4
 | 5,_=>exact h5
 | 6,_=>exact h6
 | 7,_=>exact h7)
theorem nr8_no {f g:Nat→Int} {e:Int} (b:Nat) (hb:b < 8) (h:¬ (f b - e≤g b∧g b≤f b + e)):nr8 f g e=false:=nr8_false.2 (fun k=>h (k b hb))
end
end Go.Proofs.Ytegmogadbnfbgaa
