import Derived.Test.YtegmogadbnfbgaaR
import Derived.Test.YtegmogadbnfbgaaM7
import Derived.Lib.SmallJoins
set_option linter.all false
/- What a law's row needs where its arguments are made of nu -/
namespace Go.Proofs.Ytegmogadbnfbgaa
open Go.ChangeShapes Go.WideShapes Go.ChangeAt Go.RowKit
theorem laidG:laidOutB Try.prog=true:=by kernel_rfl
section
variable {H : Type} {enc : TypeId × Value → H} {P : Program}
theorem allStayG (hl:laidOutB P=true) {W W':World} (hb:Below W.heap.size W W') {sp:Nat→Bool}:∀ {ts:List TypeId} {vs:List Value} {ds:List (DataW H)} {ps:List MemPlace},
  (∀ t∈ts,P.readableRec t=true∧t < P.types.size)→DataW.TrodAll enc P W 0 (fun _=>true) true ts vs ds ps→(∀ x∈ps,x.block < W.heap.size)→(∀ x∈ps,sp x.block=true)→DataW.TrodAll enc P W' 0 sp true ts vs ds ps
 | [],[],[],_,_,h,_,_=>h
 | _ :: _,_ :: _,_ :: _,_,hT,⟨p,q,h1,h2,e⟩,hlt,hs =>
  ⟨p,q,Go.WideElems.Trod_stays hl (hT _ (List.mem_cons.2 (Or.inl rfl))).1 (hT _ (List.mem_cons.2 (Or.inl rfl))).2 h1 (fun x hx=>hb.same (hlt x (by rw [e]; exact List.mem_append_left _ hx))) (fun x hx=>hs x (by rw [e]; exact List.mem_append_left _ hx)),
   allStayG hl hb (fun t ht=>hT t (List.mem_cons.2 (Or.inr ht))) h2 (fun x hx=>hlt x (by rw [e]; exact List.mem_append_right _ hx)) (fun x hx=>hs x (by rw [e]; exact List.mem_append_right _ hx)),e⟩
theorem rowG (hl:laidOutB P=true) {f:Func} {s:ChangeSpec} {t:TypeId} {apart fresh handsOn again:Bool} {W W':World} {args:Array Value} {ds gs:List (DataW H)} {before:List MemPlace}
  (hW:DataW.Whole enc P f.params.toList s.vars apart W args.toList ds gs before) (hA:DataW.TrodAll enc P W 0 (fun _=>true) true f.params.toList args.toList ds before) (hk:Ev.Kept W W') (ht:P.underlying t=some .bool) (hft:f.resultTypes = #[t])
  (hT:∀ t∈f.params.toList,P.readableRec t=true∧t < P.types.size)
  (hr:(s.fn H (ds ++ gs)).results=[.lit (.bool true)]) (ha:(s.fn H (ds ++ gs)).args=ds)
  (hv:∀ sp:Nat→Bool,(∀ p∈before,sp p.block=true)→DataW.TrodVars enc P W' sp s.vars (s.fn H (ds ++ gs)).vars []) :
  s.post enc P f apart fresh handsOn again W args (.bool true) W' :=
 have hb:Below W.heap.size W W':=⟨hk.os,hk.tape,hk.output,hk.size,hk.old⟩
 rowTrue hW hb ht hft hr (fun sp hs=>by rw [ha]; exact allStayG hl hb hT hA hW.lt hs) hv
def IsS (k:Option IntKind) (v:Value):Prop :=
 match k with
 | some k=>∃ n,v = .int k n∧(Lit.int k n).wf=true
 | none=>∃ b,v = .bool b
def IsK:List (Option IntKind)→List Value→Prop
 | [],[]=>True
 | k :: ks,v :: vs=>IsS k v∧IsK ks vs
 | _,_=>False
theorem isK_append:∀ {a b:List (Option IntKind)} {x y:List Value},IsK a x→IsK b y→IsK (a ++ b) (x ++ y)
 | [],b,[],y,_,h=>h
 | k :: a,b,v :: x,y,h,h'=>⟨h.1,isK_append h.2 h'⟩
 | [],b,v :: x,y,h,_=>h.elim
 | k :: a,b,[],y,h,_=>h.elim
def kindsL (P:Program) (rec:TypeId→Option (List (Option IntKind))) (tot:Nat):List Field→Nat→Option (List (Option IntKind))
 | [],o=>if o=tot then some [] else none
 | f :: l,o=>match rec f.type with
  | some ks=>if f.offset=o∧ks.length=P.cellsOf f.type then
    match kindsL P rec tot l (o + ks.length) with
    | some r=>some (ks ++ r)
    | none=>none
   else none
  | none=>none
def repK (ks:List (Option IntKind)):Nat→List (Option IntKind)
 | 0=>[]
 | n + 1=>ks ++ repK ks n
theorem repK_of {ks:List (Option IntKind)} {m:Nat} (hm:ks.length=m):∀ (n:Nat) (cs:List Value),cs.length=n * m→(∀ i,i < n→IsK ks ((cs.drop (i * m)).take m))→IsK (repK ks n) cs
 | 0,cs,hl,_=>by
  obtain rfl:=List.eq_nil_of_length_eq_zero (show cs.length=0 by omega)
  trivial
 | n + 1,cs,hl,h=>by
  have h0:=h 0 (by omega)
  rw [Nat.zero_mul,List.drop_zero] at h0
  have h1:=repK_of hm n (cs.drop m) (by rw [List.length_drop,hl,Nat.add_mul]; omega) (fun i hi=>by
   rw [List.drop_drop]
   have:=h (i + 1) (by omega)
   rwa [Nat.add_mul,Nat.one_mul,Nat.add_comm] at this)
  have:=isK_append h0 h1
  rwa [List.take_append_drop] at this
def kindsF (P:Program):Nat→TypeId→Option (List (Option IntKind))
 | 0,_=>none
 | n + 1,t=>match P.underlying t with
  | some (.int k)=>some [some k]
  | some .bool=>some [none]
  | some (.struct fs)=>kindsL P (kindsF P n) (P.cellsOf t) fs.toList 0
  | some (.array m e)=>match kindsF P n e with
   | some ks=>if ks.length=P.cellsOf e∧m * P.cellsOf e=P.cellsOf t then some (repK ks m) else none
   | none=>none
  | _=>none
variable {w : World} {base : Nat} {sp : Nat → Bool} {held : Bool}
theorem flatL {rec:TypeId→Option (List (Option IntKind))} {tot n:Nat} {cs:List Value} (hl:cs.length=tot)
  (hr:∀ (t:TypeId) (ks:List (Option IntKind)) (cs:List Value) (y:DataW H×List MemPlace),rec t=some ks→DataW.trod enc P w base sp held n t cs=some y→IsK ks cs) :
  ∀ {l:List Field} {o:Nat} {ks:List (Option IntKind)},kindsL P rec tot l o=some ks→(∀ f∈l,∃ y,DataW.trod enc P w base sp held n f.type ((cs.drop f.offset).take (P.cellsOf f.type))=some y)→IsK ks (cs.drop o)
 | [],o,ks,h,_=>by
  unfold kindsL at h
  split at h
  ·cases h
   rename_i e
   rw [List.drop_eq_nil_of_le (by omega)]
   trivial
  ·cases h
 | f :: l,o,ks,h,hf=>by
  unfold kindsL at h
  split at h
  ·rename_i k1 hk1
   split at h
   ·rename_i hc
    split at h
    ·rename_i r hr2
     cases h
     obtain ⟨y,hy⟩:=hf f (List.mem_cons.2 (Or.inl rfl))
     have h1:=hr _ _ _ _ hk1 hy
     have h2:=flatL hl hr hr2 (fun g hg=>hf g (List.mem_cons.2 (Or.inr hg)))
     have e:cs.drop o=(cs.drop f.offset).take (P.cellsOf f.type) ++ cs.drop (o + k1.length):=by
      rw [hc.1,← hc.2,← List.drop_drop]
      exact (List.take_append_drop _ _).symm
     rw [e]
     exact isK_append h1 h2
    ·cases h
   ·cases h
  ·cases h
theorem trod_boolG {t:TypeId} {fuel:Nat} {cs:List Value} {x:DataW H×List MemPlace} (ht:P.underlying t=some .bool) (h:DataW.trod enc P w base sp held fuel t cs=some x):∃ b,cs=[.bool b]:=by
 cases fuel with
 | zero=>simp [DataW.trod] at h
 | succ n =>
  unfold DataW.trod at h
  rw [ht] at h
  split at h <;> simp_all
theorem flatF:∀ (d:Nat) {t:TypeId} {ks:List (Option IntKind)} {fuel:Nat} {cs:List Value} {y:DataW H×List MemPlace},kindsF P d t=some ks→DataW.trod enc P w base sp held fuel t cs=some y→IsK ks cs
 | 0,t,ks,fuel,cs,y,h,_=>by cases h
 | d + 1,t,ks,fuel,cs,y,h,hy=>by
  unfold kindsF at h
  split at h
  ·rename_i k hk
   cases h
   obtain ⟨n,rfl,-,hw⟩:=DataW.trod_int hk hy
   exact ⟨⟨n,rfl,hw⟩,trivial⟩
  ·rename_i hk
   cases h
   obtain ⟨b,rfl⟩:=trod_boolG hk hy
   exact ⟨⟨b,rfl⟩,trivial⟩
  ·rename_i fs hk
   obtain ⟨xs,n,-,-,hl,hx,hf⟩:=DataW.trod_struct hk hy
   have:=flatL (n:=n) (cs:=cs) hl (fun t ks cs y h1 h2=>flatF d h1 h2) h (fun f hm=>by
    obtain ⟨i,hi,e⟩:=List.getElem_of_mem hm
    have h3:=hf i f (by rw [← e,Array.getElem?_eq_getElem (by simpa using hi),Array.getElem_toList])
    rw [List.getElem?_eq_getElem (by rw [hx]; simpa using hi)] at h3
    exact ⟨_,h3⟩)
   simpa using this
  ·rename_i m e hk
   split at h
   ·rename_i ks hks
    split at h
    ·rename_i hc
     cases h
     obtain ⟨xs,q,-,-,hl,hx,hf⟩:=DataW.trod_array hk hy
     refine repK_of hc.1 m cs (by rw [hl,hc.2]) (fun i hi=>?_)
     have h3:=hf i hi
     rw [List.getElem?_eq_getElem (by omega)] at h3
     exact flatF d hks h3
    ·cases h
   ·cases h
  ·cases h
theorem isK_cons {k:Option IntKind} {ks:List (Option IntKind)} {l:List Value} (h:IsK (k :: ks) l):∃ v l',l=v :: l'∧IsS k v∧IsK ks l':=by
 cases l with
 | nil=>exact h.elim
 | cons v l=>exact ⟨v,l,rfl,h.1,h.2⟩
theorem isK_nil {l:List Value} (h:IsK [] l):l=[]:=by
 cases l with
 | nil=>rfl
 | cons v l=>exact h.elim
theorem spot_noneG {w:World} {g off:Nat} {s:Option Nat} {v:Value} (h:w.cell? ⟨g,off,s⟩=some v):s=none:=by
 unfold World.cell? at h
 split at h
 ·cases s with
  | none=>rfl
  | some s=>simp at h
 ·cases h
theorem add_atG (g off j:Nat):(⟨g,off,none⟩:Addr).add j=⟨g,off + j,none⟩:=by unfold Addr.add; split <;> simp_all
def IsLst (w:World) (Q:List Value→Prop) (m:Nat) (v:Value) (n:Nat) (vs:List Value):Prop :=
 Ev.XOk w v n m vs∧n≤9223372036854775807∧∀ i,i < n→Q ((vs.drop (i * m)).take m)
theorem open_listC {t e:TypeId} {m:Nat} {fuel:Nat} {cs:List Value} {x:DataW H×List MemPlace} {Q:List Value→Prop} (ht:P.underlying t=some (.slice e)) (ce:P.cellsOf e=m) (hm:0 < m)
  (hQ:∀ (fuel:Nat) (cs:List Value) (y:DataW H×List MemPlace),cs.length=m→DataW.trod enc P w base sp held fuel e cs=some y→Q cs)
  (h:DataW.trod enc P w base sp held fuel t cs=some x):∃ v n vs,cs=[v]∧IsLst w Q m v n vs:=by
 rcases DataW.trod_slice ht h with ⟨hcs,hx⟩ | ⟨a,len,cap,elems,rest,n,_,hcs,hx,hb,hl,hmx,hlen,hel,hsp,hns⟩
 ·exact ⟨_,0,[],hcs,⟨none,0,rfl,Nat.le_refl _,by simp,fun h=>absurd h (by simp)⟩,by omega,fun i hi=>absurd hi (by omega)⟩
 ·have each:∀ i,i < len→∃ cs':List Value,cs'.length=m∧(∀ j,j < m→w.cell? (a.add (i * m) |>.add j)=cs'[j]?)∧Q cs':=by
   intro i hi
   have hq:=hel i hi
   rw [ce] at hq
   obtain ⟨y,hy⟩:∃ y,elems[i]? = some y:=⟨_,List.getElem?_eq_getElem (by omega)⟩
   rw [hy,Option.bind_eq_some_iff] at hq
   obtain ⟨cs',hc1,hc2⟩:=hq
   obtain ⟨-,e2,e3⟩:=World.cells?_some hc1
   exact ⟨cs',e2,e3,hQ _ _ _ e2 hc2⟩
  by_cases h0:len=0
  ·subst h0
   exact ⟨_,0,[],hcs,⟨_,_,rfl,hl,by simp,fun h=>absurd h (by simp)⟩,by omega,fun i hi=>absurd hi (by omega)⟩
  ·obtain ⟨g,off,s⟩:=a
   have hs:s=none:=by
    obtain ⟨cs',q1,q2,-⟩:=each 0 (by omega)
    have c0:=q2 0 hm
    have e:((⟨g,off,s⟩:Addr).add (0 * m)).add 0=⟨g,off,s⟩:=by simp [Addr.add]
    rw [e,List.getElem?_eq_getElem (by omega)] at c0
    exact spot_noneG c0
   subst hs
   have cell:∀ (i j:Nat) (cs':List Value),i < len→j < m→(∀ j,j < m→w.cell? ((⟨g,off,none⟩:Addr).add (i * m) |>.add j)=cs'[j]?)→w.cell? ⟨g,off + (i * m + j),none⟩=cs'[j]?:=by
    intro i j cs' _ hj h
    have:=h j hj
    rw [add_atG,add_atG] at this
    rw [← this]
    congr 2
    omega
   refine ⟨_,len,(List.range (len * m)).map (fun q=>(w.cell? ⟨g,off + q,none⟩).getD undef),hcs,⟨_,cap,rfl,hl,by simp,fun _=>⟨g,off,rfl,fun q hq=>?_⟩⟩,by unfold maxLen at hmx; omega,fun i hi=>?_⟩
   ·have hq':q < len * m:=by simpa using hq
    have hd:=Nat.div_add_mod q m
    have hlt:q / m < len:=Nat.div_lt_of_lt_mul (by rw [Nat.mul_comm]; exact hq')
    obtain ⟨cs',q1,q2,-⟩:=each (q / m) hlt
    have:=cell (q / m) (q % m) cs' hlt (Nat.mod_lt _ hm) q2
    have e:q / m * m + q % m=q:=by rw [Nat.mul_comm]; exact hd
    rw [e] at this
    rw [List.getElem?_map,List.getElem?_range hq',Option.map_some,this,List.getElem?_eq_getElem (by rw [q1]; exact Nat.mod_lt _ hm)]
    rfl
   ·obtain ⟨cs',q1,q2,q3⟩:=each i hi
    have hle:i * m + m≤len * m:=by
     have:=Nat.mul_le_mul_right m (show i + 1≤len from hi)
     rw [Nat.add_mul] at this
     omega
    have e:(((List.range (len * m)).map (fun q=>(w.cell? ⟨g,off + q,none⟩).getD undef)).drop (i * m)).take m=cs':=by
     apply List.ext_getElem?
     intro j
     rw [List.getElem?_take]
     by_cases hj:j < m
     ·rw [if_pos hj,List.getElem?_drop,List.getElem?_map,List.getElem?_range (by omega),Option.map_some,cell i j cs' hi hj q2,List.getElem?_eq_getElem (by omega)]
      rfl
     ·rw [if_neg hj,List.getElem?_eq_none (by omega)]
    rw [e]
    exact q3
theorem open_list {t e:TypeId} {m:Nat} {v:Value} {x:DataW H} {ps:List MemPlace} {Q:List Value→Prop} (ht:P.underlying t=some (.slice e)) (ce:P.cellsOf e=m) (hm:0 < m)
  (hQ:∀ (fuel:Nat) (cs:List Value) (y:DataW H×List MemPlace),cs.length=m→DataW.trod enc P w base sp held fuel e cs=some y→Q cs)
  {r:Reach} {b0:Nat} (hv:Value.okWide P w r b0 t v) (h:DataW.Trod enc P w base sp held t v x ps):∃ n vs,IsLst w Q m v n vs:=by
 obtain ⟨a,len,cap,rfl⟩:=okWide_slice ht hv
 obtain ⟨fuel,hf⟩:=h
 obtain ⟨v,n,vs,e,h1⟩:=open_listC ht ce hm hQ hf
 simp [Value.cells] at e
 subst e
 exact ⟨n,vs,h1⟩
end
theorem denL_cons {w:World} {a:Ev.AV} {l:List Ev.AV} {x:Value} {xs:List Value} (h:Ev.den (Ev.bare w) a=some x) (k:Ev.denL (Ev.bare w) l=some xs):Ev.denL (Ev.bare w) (a :: l)=some (x :: xs):=by
 unfold Ev.denL
 rw [h,k]
theorem den_lst {w:World} {v:Value} {n m:Nat} {vs:List Value} {c:List Ev.AV} (h:Ev.XOk w v n m vs) (hc:Ev.denL (Ev.bare w) c=some vs):Ev.den (Ev.bare w) (.xl v n m c)=some v:=Ev.den_xl_mk hc h
theorem callsG {P:Program} {f:FuncId} {args:List Ev.AV} {xs:List Value} {r:Value} (h:Ev.GivesA P f args r) (w:World) (hx:Ev.denL (Ev.bare w) args=some xs):Calls P f xs.toArray w (fun e w'=>e = .returned r∧Ev.Kept w w') :=
 callsIn_wide.1 (h.2 Fence.wide 0 w xs ⟨fun _=>trivial,rfl⟩ hx)
end Go.Proofs.Ytegmogadbnfbgaa
