import Derived.Test.YtnphldmnakbknaaDa
import Derived.Test.YtnphldmnakbknaaDn
import Derived.Test.YtnphldmnakbknaaDr
import Derived.Test.YtnphldmnakbknaaCa
import Derived.Test.YtnphldmnakbknaaCb
import Derived.Test.YtnphldmnakbknaaT4
import Derived.Test.YtnphldmnakbknaaSla
import Derived.Test.YtnphldmnakbknaaSlb
set_option maxHeartbeats 4000000
set_option linter.all false
/- What is known of dark places. -/
namespace Go.Proofs.Ytnphldmnakbknaa
open Go Ev
noncomputable section
section
variable (C : List Int) (i : Nat) (z : Value)
@[reducible] def qI2_1:Nat×Ev.AV:=(6,(.v (.int .i64 (((i + 1):Nat):Int))))
@[reducible] def qI2_2:Nat×Ev.AV:=(1,(.xl (z) (C.length) 1 (cI C)))
@[reducible] def qI2_3:Nat×Ev.AV:=(5,(.v (.int .i64 (.ofNat 0))))
@[reducible] def qI2_4:Nat×Ev.AV:=(6,(.v (.int .i64 (.ofNat 0))))
@[reducible] def qI2_5:Nat×Ev.AV:=(1,(.xl z C.length 1 (cI C)))
end
def dkSa:List AV→List AB→Option ((AV×List AB)×List Prop):=fun args xs =>
 match args with
 | [.agg l]=>match rdV l,xs with
  | some (n,d,q,y,m,c),[]=>some ((.tup [.v (.int .i64 0),.v (.slice none 0 0)],[]),[IsRd l,roE n d q c m=0,(flt (stnd l) m).length=0])
  | _,_=>none
 | _=>none
def dkOa:OrcH:=mOrc 52 dkSa
theorem known_dka:Known Try.prog (clsO dkOa):=known_m (fun args xs r ys ps h hp=>by
 unfold dkSa at h
 split at h
 ·split at h
  ·rename_i n d q y m c e
   cases h
   obtain ⟨⟨n,d,q,y,P,st,rfl⟩,hE,h0,-⟩:=hp
   obtain ⟨rfl,rfl,rfl,rfl,rfl,rfl⟩:=rdV_eq e
   obtain ⟨k,rfl⟩:∃ k:Nat,n=((k:Nat):Int):=⟨n.toNat,by have h9:=(roE_zero hE).2.1.1; omega⟩
   exact ⟨fun x hx=>absurd hx List.not_mem_nil,fun x hx=>absurd hx List.not_mem_nil,dark_a k _ _ _ P st hE h0⟩
  ·cases h
 ·cases h)
def dkSn:List AV→List AB→Option ((AV×List AB)×List Prop):=fun args xs =>
 match args with
 | [.agg l]=>match rdV l,xs with
  | some (n,d,q,y,m,c),[]=>some ((.tup [.v (.int .i64 (((drV c q d (cI (flt (stnd l) m)) (flt (stnd l) m).length n.toNat):Nat):Int)),.v (.slice none 0 0)],[]),[IsRd l,roE n d q c m=0,0 < (flt (stnd l) m).length,(drL c q d (cI (flt (stnd l) m)) (flt (stnd l) m).length n.toNat).length=0])
  | _,_=>none
 | _=>none
def dkOn:OrcH:=mOrc 52 dkSn
theorem known_dkn:Known Try.prog (clsO dkOn):=known_m (fun args xs r ys ps h hp=>by
 unfold dkSn at h
 split at h
 ·split at h
  ·rename_i n d q y m c e
   cases h
   obtain ⟨⟨n,d,q,y,P,st,rfl⟩,hE,h0,hl,-⟩:=hp
   obtain ⟨rfl,rfl,rfl,rfl,rfl,rfl⟩:=rdV_eq e
   obtain ⟨k,rfl⟩:∃ k:Nat,n=((k:Nat):Int):=⟨n.toNat,by have h9:=(roE_zero hE).2.1.1; omega⟩
   exact ⟨fun x hx=>absurd hx List.not_mem_nil,fun x hx=>absurd hx List.not_mem_nil,dark_n k _ _ _ P st hE h0 hl⟩
  ·cases h
 ·cases h)
def dkSr:List AV→List AB→Option ((AV×List AB)×List Prop):=fun args xs =>
 match args with
 | [.agg l]=>match rdV l,xs with
  | some (n,d,q,y,m,c),[]=>some ((.tup [.v (.int .i64 (((drV c q d (cI (flt (stnd l) m)) (flt (stnd l) m).length n.toNat):Nat):Int)),.slu 0 0 (drL c q d (cI (flt (stnd l) m)) (flt (stnd l) m).length n.toNat).length 0],[.row (cI (drL c q d (cI (flt (stnd l) m)) (flt (stnd l) m).length n.toNat)) 3 1]),[IsRd l,roE n d q c m=0,0 < (flt (stnd l) m).length,0 < (drL c q d (cI (flt (stnd l) m)) (flt (stnd l) m).length n.toNat).length])
  | _,_=>none
 | _=>none
def dkOr:OrcH:=mOrc 52 dkSr
theorem known_dkr:Known Try.prog (clsO dkOr):=known_m (fun args xs r ys ps h hp=>by
 unfold dkSr at h
 split at h
 ·split at h
  ·rename_i n d q y m c e
   cases h
   obtain ⟨⟨n,d,q,y,P,st,rfl⟩,hE,h0,hl,-⟩:=hp
   obtain ⟨rfl,rfl,rfl,rfl,rfl,rfl⟩:=rdV_eq e
   obtain ⟨k,rfl⟩:∃ k:Nat,n=((k:Nat):Int):=⟨n.toNat,by have h9:=(roE_zero hE).2.1.1; omega⟩
   exact ⟨fun x hx=>absurd hx List.not_mem_nil,fun x hx=>by rcases List.mem_cons.1 hx with rfl | hx; exact freeB_row (freeL_plain (cI_plain _)); exact absurd hx List.not_mem_nil,dark_r k _ _ _ P st hE h0 hl⟩
  ·cases h
 ·cases h)
theorem fst_le_of {f:Nat→Bool} {i:Nat} (hf:f i=true):∀ {n:Nat},i < n→fstF f n≤i
 | n + 1,h=>by
  have h1:=fst_le f n
  by_cases e:i=n
  ·subst e
   simp only [fstF,hf,if_true]
   split <;> omega
  ·have ih:=fst_le_of hf (show i < n by omega)
   simp only [fstF]
   rw [if_pos (by omega)]
   exact ih
def hoB (c:List AV) (q d:Int) (xs:List AV) (k n:Nat):Bool:=eqI ((drV c q d xs k n:Nat):Int) ((n:Nat):Int)
section
variable {c xs : List AV} {q d : Int} {k n i : Nat}
theorem ho_yes (h:∀ j,j < n→d < litF c q xs k j):hoB c q d xs k n=true:=by
 unfold hoB
 rw [(dr_none h).1]
 exact eqI_self _
theorem ho_no (hi:i < n) (h:litF c q xs k i≤d):hoB c q d xs k n=false:=by
 unfold hoB
 have:drV c q d xs k n≤i:=fst_le_of (f:=dkB c q d xs k) (decide_eq_true (p:=litF c q xs k i≤d) h) hi
 rw [eqI_iff]
 exact decide_eq_false (by omega)
theorem ho_zero (hn:1≤n) (hd:0≤d):hoB c q d xs 0 n=false:=ho_no (i:=0) (by omega) (by show (0:Int)≤d; exact hd)
end
noncomputable def hoaK1:Code:=bodyC Try.f44
theorem hoa_2 (n:Nat) (d q:Int) (y:Value) (P:List (Int×Int×Int)) (st:Nat→Bool) (hE:roE ((n:Nat):Int) d q (cT P) P.length=0) (h0:(flt (stM ((n:Nat):Int) d q y P st) P.length).length=0) (v:BaseW) (eb:Nat→Option Nat) (ec:Nat→Nat) (hs:List Nat):Goes Try.prog 15 hoaK1 (⟨[(0,(.agg (rdT [.v (.int .i64 ((n:Nat):Int)),.v (.int .i64 d),.v (.int .i64 q),.xl y P.length 3 (cT P)] (st))))],[],0,[]⟩) (BaseW.H (bw v 0 eb ec) hs) (OutM Try.prog Try.f44 15 ((.v (.bool (hoB (cT P) q d (cI (flt (stM ((n:Nat):Int) d q y P st) P.length)) (flt (stM ((n:Nat):Int) d q y P st) P.length).length n)))) [] (bw v 0 eb ec)):=by
 obtain ⟨hm,⟨ha1,ha2,ha3⟩,hp⟩:=roE_zero hE
 exact goes_leafA isR_e (goes_cut Try.checked.mixed (known_dka) 200 (T':=⟨[(2,(.v (.bool (eqI 0 ((n:Nat):Int)))))],[],0,[]⟩) (e:=.ret) (m:=1) (ps:=[FreeL (cT P),IsRd (rdT [AV.v (Value.int IntKind.i64 ((n:Nat):Int)),AV.v (Value.int IntKind.i64 d),AV.v (Value.int IntKind.i64 q),AV.xl y P.length 3 (cT P)] (st)),roE (((n:Nat):Int)) d q (cT P) P.length=0,(flt (stM ((n:Nat):Int) d q y P st) P.length).length=0]) [.go,.go,.go,.go,.go,.go,.go,.go,.go,.go,.go,.go,.go,.go] (by kernel_rfl) (by kernel_rfl) ⟨(freeL_plain (cT_plain P)),⟨_,_,_,_,P,st,rfl⟩,hE,h0,trivial⟩ rfl (by show 0≤1; decide) ⟨⟨nb_v _,trivial⟩,trivial,rfl⟩ (by show 0≤0; decide)) (en_eqM (r:=(.v (.bool (eqI 0 ((n:Nat):Int))))) (ys:=[]) (by (rw [h0,ho_zero (by omega) (by omega)]; rw [show eqI 0 ((n:Nat):Int)=false from by rw [eqI_iff]; exact decide_eq_false (by omega)])) (by rfl) (en_retM (by kernel_rfl) (by kernel_rfl) rfl (.inr rfl)))
theorem holds_a (n:Nat) (d q:Int) (y:Value) (P:List (Int×Int×Int)) (st:Nat→Bool) (hE:roE ((n:Nat):Int) d q (cT P) P.length=0) (h0:(flt (stM ((n:Nat):Int) d q y P st) P.length).length=0):GivesM Try.prog 44 [(.agg (rdT [.v (.int .i64 ((n:Nat):Int)),.v (.int .i64 d),.v (.int .i64 q),.xl y P.length 3 (cT P)] (st)))] [] ((.v (.bool (hoB (cT P) q d (cI (flt (stM ((n:Nat):Int) d q y P st) P.length)) (flt (stM ((n:Nat):Int) d q y P st) P.length).length n)))) [] :=
 givesM_parts 15 (by kernel_rfl) Try.func44 (by kernel_rfl) (by kernel_rfl) (by kernel_rfl) (fun v eb ec=>goes_less (by kernel_rfl) (by kernel_rfl) (by kernel_rfl) (by kernel_rfl) (hoa_2 n d q y P st hE h0 v eb ec []))
noncomputable def honK1:Code:=bodyC Try.f44
theorem hon_2 (n:Nat) (d q:Int) (y:Value) (P:List (Int×Int×Int)) (st:Nat→Bool) (hE:roE ((n:Nat):Int) d q (cT P) P.length=0) (h0:0 < (flt (stM ((n:Nat):Int) d q y P st) P.length).length) (hl:(drL (cT P) q d (cI (flt (stM ((n:Nat):Int) d q y P st) P.length)) (flt (stM ((n:Nat):Int) d q y P st) P.length).length n).length=0) (v:BaseW) (eb:Nat→Option Nat) (ec:Nat→Nat) (hs:List Nat):Goes Try.prog 15 honK1 (⟨[(0,(.agg (rdT [.v (.int .i64 ((n:Nat):Int)),.v (.int .i64 d),.v (.int .i64 q),.xl y P.length 3 (cT P)] (st))))],[],0,[]⟩) (BaseW.H (bw v 0 eb ec) hs) (OutM Try.prog Try.f44 15 ((.v (.bool (hoB (cT P) q d (cI (flt (stM ((n:Nat):Int) d q y P st) P.length)) (flt (stM ((n:Nat):Int) d q y P st) P.length).length n)))) [] (bw v 0 eb ec)):=by
 obtain ⟨hm,⟨ha1,ha2,ha3⟩,hp⟩:=roE_zero hE
 exact goes_leafA isR_e (goes_cut Try.checked.mixed (known_dkn) 200 (T':=⟨[(2,(.v (.bool (eqI ((drV (cT P) q d (cI (flt (stM ((n:Nat):Int) d q y P st) P.length)) (flt (stM ((n:Nat):Int) d q y P st) P.length).length n:Nat):Int) ((n:Nat):Int)))))],[],0,[]⟩) (e:=.ret) (m:=1) (ps:=[FreeL (cT P),IsRd (rdT [AV.v (Value.int IntKind.i64 ((n:Nat):Int)),AV.v (Value.int IntKind.i64 d),AV.v (Value.int IntKind.i64 q),AV.xl y P.length 3 (cT P)] (st)),roE (((n:Nat):Int)) d q (cT P) P.length=0,0 < (flt (stM ((n:Nat):Int) d q y P st) P.length).length,(drL (cT P) q d (cI (flt (stM ((n:Nat):Int) d q y P st) P.length)) (flt (stM ((n:Nat):Int) d q y P st) P.length).length n).length=0]) [.go,.go,.go,.go,.go,.go,.go,.go,.go,.go,.go,.go,.go,.go] (by kernel_rfl) (by kernel_rfl) ⟨(freeL_plain (cT_plain P)),⟨_,_,_,_,P,st,rfl⟩,hE,h0,hl,trivial⟩ rfl (by show 0≤1; decide) ⟨⟨nb_v _,trivial⟩,trivial,rfl⟩ (by show 0≤0; decide)) (en_eqM (r:=(.v (.bool (eqI ((drV (cT P) q d (cI (flt (stM ((n:Nat):Int) d q y P st) P.length)) (flt (stM ((n:Nat):Int) d q y P st) P.length).length n:Nat):Int) ((n:Nat):Int))))) (ys:=[]) (by rfl) (by rfl) (en_retM (by kernel_rfl) (by kernel_rfl) rfl (.inr rfl)))
theorem holds_n (n:Nat) (d q:Int) (y:Value) (P:List (Int×Int×Int)) (st:Nat→Bool) (hE:roE ((n:Nat):Int) d q (cT P) P.length=0) (h0:0 < (flt (stM ((n:Nat):Int) d q y P st) P.length).length) (hl:(drL (cT P) q d (cI (flt (stM ((n:Nat):Int) d q y P st) P.length)) (flt (stM ((n:Nat):Int) d q y P st) P.length).length n).length=0):GivesM Try.prog 44 [(.agg (rdT [.v (.int .i64 ((n:Nat):Int)),.v (.int .i64 d),.v (.int .i64 q),.xl y P.length 3 (cT P)] (st)))] [] ((.v (.bool (hoB (cT P) q d (cI (flt (stM ((n:Nat):Int) d q y P st) P.length)) (flt (stM ((n:Nat):Int) d q y P st) P.length).length n)))) [] :=
 givesM_parts 15 (by kernel_rfl) Try.func44 (by kernel_rfl) (by kernel_rfl) (by kernel_rfl) (fun v eb ec=>goes_less (by kernel_rfl) (by kernel_rfl) (by kernel_rfl) (by kernel_rfl) (hon_2 n d q y P st hE h0 hl v eb ec []))
noncomputable def horK1:Code:=bodyC Try.f44
theorem hor_2 (n:Nat) (d q:Int) (y:Value) (P:List (Int×Int×Int)) (st:Nat→Bool) (hE:roE ((n:Nat):Int) d q (cT P) P.length=0) (h0:0 < (flt (stM ((n:Nat):Int) d q y P st) P.length).length) (hl:0 < (drL (cT P) q d (cI (flt (stM ((n:Nat):Int) d q y P st) P.length)) (flt (stM ((n:Nat):Int) d q y P st) P.length).length n).length) (v:BaseW) (eb:Nat→Option Nat) (ec:Nat→Nat) (hs:List Nat):Goes Try.prog 15 horK1 (⟨[(0,(.agg (rdT [.v (.int .i64 ((n:Nat):Int)),.v (.int .i64 d),.v (.int .i64 q),.xl y P.length 3 (cT P)] (st))))],[],0,[]⟩) (BaseW.H (bw v 0 eb ec) hs) (OutM Try.prog Try.f44 15 ((.v (.bool (hoB (cT P) q d (cI (flt (stM ((n:Nat):Int) d q y P st) P.length)) (flt (stM ((n:Nat):Int) d q y P st) P.length).length n)))) [] (bw v 0 eb ec)):=by
 obtain ⟨hm,⟨ha1,ha2,ha3⟩,hp⟩:=roE_zero hE
 exact goes_leafA isR_e (goes_cut Try.checked.mixed (known_dkr) 200 (T':=⟨[(2,(.v (.bool (eqI ((drV (cT P) q d (cI (flt (stM ((n:Nat):Int) d q y P st) P.length)) (flt (stM ((n:Nat):Int) d q y P st) P.length).length n:Nat):Int) ((n:Nat):Int)))))],[],0,[]⟩) (e:=.ret) (m:=2) (ps:=[FreeL (cT P),IsRd (rdT [AV.v (Value.int IntKind.i64 ((n:Nat):Int)),AV.v (Value.int IntKind.i64 d),AV.v (Value.int IntKind.i64 q),AV.xl y P.length 3 (cT P)] (st)),roE (((n:Nat):Int)) d q (cT P) P.length=0,0 < (flt (stM ((n:Nat):Int) d q y P st) P.length).length,0 < (drL (cT P) q d (cI (flt (stM ((n:Nat):Int) d q y P st) P.length)) (flt (stM ((n:Nat):Int) d q y P st) P.length).length n).length]) [.go,.go,.go,.go,.go,.go,.go,.go,.go,.go,.go,.go,.go,.go] (by kernel_rfl) (by kernel_rfl) ⟨(freeL_plain (cT_plain P)),⟨_,_,_,_,P,st,rfl⟩,hE,h0,hl,trivial⟩ rfl (by show 0≤2; decide) ⟨⟨nb_v _,trivial⟩,trivial,rfl⟩ (by show 0≤0; decide)) (en_eqM (r:=(.v (.bool (eqI ((drV (cT P) q d (cI (flt (stM ((n:Nat):Int) d q y P st) P.length)) (flt (stM ((n:Nat):Int) d q y P st) P.length).length n:Nat):Int) ((n:Nat):Int))))) (ys:=[]) (by rfl) (by rfl) (en_retM (by kernel_rfl) (by kernel_rfl) rfl (.inr rfl)))
theorem holds_r (n:Nat) (d q:Int) (y:Value) (P:List (Int×Int×Int)) (st:Nat→Bool) (hE:roE ((n:Nat):Int) d q (cT P) P.length=0) (h0:0 < (flt (stM ((n:Nat):Int) d q y P st) P.length).length) (hl:0 < (drL (cT P) q d (cI (flt (stM ((n:Nat):Int) d q y P st) P.length)) (flt (stM ((n:Nat):Int) d q y P st) P.length).length n).length):GivesM Try.prog 44 [(.agg (rdT [.v (.int .i64 ((n:Nat):Int)),.v (.int .i64 d),.v (.int .i64 q),.xl y P.length 3 (cT P)] (st)))] [] ((.v (.bool (hoB (cT P) q d (cI (flt (stM ((n:Nat):Int) d q y P st) P.length)) (flt (stM ((n:Nat):Int) d q y P st) P.length).length n)))) [] :=
 givesM_parts 15 (by kernel_rfl) Try.func44 (by kernel_rfl) (by kernel_rfl) (by kernel_rfl) (fun v eb ec=>goes_less (by kernel_rfl) (by kernel_rfl) (by kernel_rfl) (by kernel_rfl) (hor_2 n d q y P st hE h0 hl v eb ec []))
theorem holds_g (n:Nat) (d q:Int) (y:Value) (P:List (Int×Int×Int)) (st:Nat→Bool) (hE:roE ((n:Nat):Int) d q (cT P) P.length=0):GivesM Try.prog 44 [.agg (rdT [.v (.int .i64 ((n:Nat):Int)),.v (.int .i64 d),.v (.int .i64 q),.xl y P.length 3 (cT P)] (st))] [] (.v (.bool (hoB (cT P) q d (cI (flt (stM ((n:Nat):Int) d q y P st) P.length)) (flt (stM ((n:Nat):Int) d q y P st) P.length).length n))) []:=by
 rcases Nat.eq_zero_or_pos (flt (stM ((n:Nat):Int) d q y P st) P.length).length with h0 | h0
 ·exact holds_a n d q y P st hE h0
 ·rcases Nat.eq_zero_or_pos (drL (cT P) q d (cI (flt (stM ((n:Nat):Int) d q y P st) P.length)) (flt (stM ((n:Nat):Int) d q y P st) P.length).length n).length with hl | hl
  ·exact holds_n n d q y P st hE h0 hl
  ·exact holds_r n d q y P st hE h0 hl
theorem cost_g (n:Nat) (d q:Int) (y:Value) (P:List (Int×Int×Int)) (st:Nat→Bool) (hE:roE ((n:Nat):Int) d q (cT P) P.length=0):GivesM Try.prog 45 [.agg (rdT [.v (.int .i64 ((n:Nat):Int)),.v (.int .i64 d),.v (.int .i64 q),.xl y P.length 3 (cT P)] (st))] [] (.v (.int .i64 (suC (cT P) (cI (flt (stM ((n:Nat):Int) d q y P st) P.length)) (flt (stM ((n:Nat):Int) d q y P st) P.length).length))) []:=by
 cases h0:(flt (stM ((n:Nat):Int) d q y P st) P.length).length with
 | zero=>exact cost_a n d q y P st hE h0
 | succ m=>exact cost_b n d q y P st m hE h0
def rlS:List AV→List AB→Option ((AV×List AB)×List Prop):=fun args xs =>
 match args with
 | [a,.xl z k j e]=>match roadV a,xs with
  | some (n,d,q,y,m,c),[]=>some ((.sl 0 0 n.toNat n.toNat,[.cells (cI (tabL (litF c q e k) n.toNat)) 3]),[IsT m c,IsC j k e,icE n d q c m e k=0,k≤1000])
  | _,_=>none
 | _=>none
def rlO:OrcH:=mOrc 43 rlS
theorem known_rl:Known Try.prog (clsO rlO):=known_m (fun args xs r ys ps h hp=>by
 unfold rlS at h
 split at h
 ·split at h
  ·rename_i n d q y m c e2
   cases h
   obtain ⟨⟨P,rfl,rfl⟩,⟨rfl,C,rfl,rfl⟩,hE,hk,-⟩:=hp
   obtain ⟨n,rfl⟩:∃ k:Nat,n=((k:Nat):Int):=⟨n.toNat,by have h9:=(roE_zero (icE_zero hE).1).2.1.1; omega⟩
   rw [roadV_eq e2]
   refine ⟨fun x hx=>absurd hx List.not_mem_nil,fun x hx=>?_,rlit_g n d q y P _ C hE hk⟩
   rcases List.mem_cons.1 hx with rfl | hx
   ·exact freeB_cells (freeL_plain (cI_plain _))
   ·exact absurd hx List.not_mem_nil
  ·cases h
 ·cases h)
noncomputable def rhK1:Code:=bodyC Try.f26
noncomputable def rhK3:Code:=tlC rhK1
noncomputable def rhK6:Code:=tlC rhK3
noncomputable def rhK9:Code:=tlC rhK6
noncomputable def rhK10:Code:=(hdC rhK6)
noncomputable def rhK12:Code:=tlC rhK10
noncomputable def rhK16:Code:=loopC rhK12
theorem rh_19 (n:Nat) (d q:Int) (y:Value) (P:List (Int×Int×Int)) (z:Value) (C:List Int) (hE:icE ((n:Nat):Int) d q (cT P) P.length (cI C) C.length=0) (hC:C.length≤1000) (h0b:∀ k,k < (n)→d < litF (cT P) q (cI C) C.length k) (hqrh18_1:(ltI ((n:Nat):Int) ((n:Nat):Int))=false) (v:BaseW) (eb:Nat→Option Nat) (ec:Nat→Nat) (hs:List Nat):Goes Try.prog 23 rhK9 (⟨[],[],2,[]⟩) (BaseW.H (bw v 0 eb ec) hs) (OutM Try.prog Try.f26 23 ((.v (.bool (hoB (cT P) q d (cI C) C.length n)))) [] (bw v 0 eb ec)):=by
 have hcl_C:=cI_len C
 obtain ⟨hR,hch⟩:=icE_zero hE
 obtain ⟨hm,⟨ha1,ha2,ha3⟩,hp⟩:=roE_zero hR
 have ghqrh18_1:=ltI_false hqrh18_1
 exact goes_leafA isR_e (goes_cut Try.checked.mixed (known_rl) 200 (T':=⟨[(4,(.v (.bool .true)))],[],0,[]⟩) (e:=.ret) (m:=2) (ps:=[]) [.go] (by kernel_rfl) (by kernel_rfl) trivial rfl (by show 0≤2; decide) ⟨⟨nb_v _,trivial⟩,trivial,rfl⟩ (by show 0≤0; decide)) (en_eqM (r:=(.v (.bool .true))) (ys:=[]) (by rw [ho_yes h0b]) (by rfl) (en_retM (by kernel_rfl) (by kernel_rfl) rfl (.inr rfl)))
theorem rh_17 (n:Nat) (d q:Int) (y:Value) (P:List (Int×Int×Int)) (z:Value) (C:List Int) (hE:icE ((n:Nat):Int) d q (cT P) P.length (cI C) C.length=0) (hC:C.length≤1000) (j:Nat) (hj1:j≤n) (hj2:∀ k,k < j→d < litF (cT P) q (cI C) C.length k) (v:BaseW) (eb:Nat→Option Nat) (ec:Nat→Nat) (hs:List Nat):Goes Try.prog 23 rhK16 (⟨[(2,(.ptr 0 0)),(5,(.sl 1 0 (n) (n))),(6,(.v (.int .i64 ((j:Nat):Int))))],[],2,[(0,(.cells [(.v (.int .i64 (((n:Nat):Int)))),(.v (.int .i64 (d))),(.v (.int .i64 (q))),(.xl (y) (P.length) 3 (cT P))] 24)),(1,(.cells (cI (tabL (litF (cT P) q (cI C) C.length) n)) 3))]⟩) (BaseW.H (bw v 0 eb ec) hs) (Hd.StepC Try.prog 23 0 (fun j:{j:Nat // j≤n∧∀ k,k < j→d < litF (cT P) q (cI C) C.length k}=>⟨[(2,(.ptr 0 0)),(5,(.sl 1 0 (n) (n))),(6,(.v (.int .i64 ((j.1:Nat):Int))))],[],2,[(0,(.cells [(.v (.int .i64 (((n:Nat):Int)))),(.v (.int .i64 (d))),(.v (.int .i64 (q))),(.xl (y) (P.length) 3 (cT P))] 24)),(1,(.cells (cI (tabL (litF (cT P) q (cI C) C.length) n)) 3))]⟩) (fun j:{j:Nat // j≤n∧∀ k,k < j→d < litF (cT P) q (cI C) C.length k}=>n - j.1) rhK9 (bw v 0 eb ec) (OutM Try.prog Try.f26 23 ((.v (.bool (hoB (cT P) q d (cI C) C.length n)))) [] (bw v 0 eb ec)) (⟨j,hj1,hj2⟩:{j:Nat // j≤n∧∀ k,k < j→d < litF (cT P) q (cI C) C.length k})):=by
 have hcl_C:=cI_len C
 obtain ⟨hR,hch⟩:=icE_zero hE
 obtain ⟨hm,⟨ha1,ha2,ha3⟩,hp⟩:=roE_zero hR
 rcases Bool.eq_false_or_eq_true (ltI ((j:Nat):Int) ((n:Nat):Int)) with hqrh18_1 | hqrh18_1
 ·skip
  have ghqrh18_1:=ltI_true hqrh18_1
  rcases Bool.eq_false_or_eq_true (ltI d (intAt (cI (tabL (litF (cT P) q (cI C) C.length) n)) (0 + j * 1))) with hqrh18_2 | hqrh18_2
  ·skip
   have ghqrh18_2:=ltI_true hqrh18_2
   rw [show 0 + j * 1=j by omega,tab_int0 _ (show j < n by omega)] at ghqrh18_2
   exact goes_leafA isN_e (goes_told Try.checked.mixed (known_rl) 200 (T':=⟨[(2,(.ptr 0 0)),(5,(.sl 1 0 (n) (n))),(6,(.v (.int .i64 (((j + 1):Nat):Int))))],[],2,[(0,(.cells [(.v (.int .i64 (((n:Nat):Int)))),(.v (.int .i64 (d))),(.v (.int .i64 (q))),(.xl (y) (P.length) 3 (cT P))] 24)),(1,(.cells (cI (tabL (litF (cT P) q (cI C) C.length) n)) 3))]⟩) (e:=.normal) (ps:=[ltI ((j:Nat):Int) ((n:Nat):Int)=true,j < n,loadL Try.prog (cI (tabL (litF (cT P) q (cI C) C.length) n)) (0 + j * 1) 3=some (AV.v (Value.int IntKind.i64 (intAt (cI (tabL (litF (cT P) q (cI C) C.length) n)) (0 + j * 1)))),(!ltI d (intAt (cI (tabL (litF (cT P) q (cI C) C.length) n)) (0 + j * 1)))=false,inR IntKind.i64 (((j:Nat):Int) + 1)]) [.go,.go,.go,.go,.b true,.go,.go,.sym,.sym,.go,.go,.go,.b false,.go,.go,.go] (by kernel_rfl) (by kernel_rfl) ⟨hqrh18_1,(by omega),(by rw [Nat.zero_add,Nat.mul_one]; exact cI_load (by rw [tabL_len]; omega) 3 (Try.underlying3) rfl),(by rw [hqrh18_2]; rfl),(by show -9223372036854775808≤_∧_≤9223372036854775807; constructor <;> omega),trivial⟩ rfl) (Hd.en_on (⟨j + 1,by omega,(up_next0 hj2 (by omega))⟩) (by show n - (j + 1) < n - j; omega) rfl)
  ·skip
   have ghqrh18_2:=ltI_false hqrh18_2
   rw [show 0 + j * 1=j by omega,tab_int0 _ (show j < n by omega)] at ghqrh18_2
   exact goes_leafA isR_e (goes_cut Try.checked.mixed (known_rl) 200 (T':=⟨[(4,(.v (.bool .false)))],[],0,[]⟩) (e:=.ret) (m:=2) (ps:=[ltI ((j:Nat):Int) ((n:Nat):Int)=true,j < n,loadL Try.prog (cI (tabL (litF (cT P) q (cI C) C.length) n)) (0 + j * 1) 3=some (AV.v (Value.int IntKind.i64 (intAt (cI (tabL (litF (cT P) q (cI C) C.length) n)) (0 + j * 1)))),(!ltI d (intAt (cI (tabL (litF (cT P) q (cI C) C.length) n)) (0 + j * 1)))=true]) [.go,.go,.go,.go,.b true,.go,.go,.sym,.sym,.go,.go,.go,.b true,.go] (by kernel_rfl) (by kernel_rfl) ⟨hqrh18_1,(by omega),(by rw [Nat.zero_add,Nat.mul_one]; exact cI_load (by rw [tabL_len]; omega) 3 (Try.underlying3) rfl),(by rw [hqrh18_2]; rfl),trivial⟩ rfl (by show 0≤2; decide) ⟨⟨nb_v _,trivial⟩,trivial,rfl⟩ (by show 0≤0; decide)) (Hd.en_so (by intro h; cases h) (by intro h; cases h) (en_eqM (r:=(.v (.bool .false))) (ys:=[]) (by rw [ho_no (i:=j) (by omega) (by omega)]) (by rfl) (en_retM (by kernel_rfl) (by kernel_rfl) rfl (.inr rfl))))
 ·skip
  have ghqrh18_1:=ltI_false hqrh18_1
  obtain rfl:n=j:=by omega
  exact goes_leafA isX_e (goes_told Try.checked.mixed (known_rl) 200 (T':=⟨[],[],2,[]⟩) (e:=.exit 0) (ps:=[ltI ((n:Nat):Int) ((n:Nat):Int)=false]) [.go,.go,.go,.go,.b false] (by kernel_rfl) (by kernel_rfl) ⟨hqrh18_1,trivial⟩ rfl) (Hd.en_sx (rh_19 n d q y P z C hE hC hj2  hqrh18_1 v eb ec hs))
theorem rh_15 (n:Nat) (d q:Int) (y:Value) (P:List (Int×Int×Int)) (z:Value) (C:List Int) (hE:icE ((n:Nat):Int) d q (cT P) P.length (cI C) C.length=0) (hC:C.length≤1000) (v:BaseW) (eb:Nat→Option Nat) (ec:Nat→Nat) (hs:List Nat):Goes Try.prog 23 rhK12 (⟨[(2,(.ptr 0 0)),(5,(.sl 1 0 (n) (n))),qI2_4],[],2,[(0,(.cells [(.v (.int .i64 (((n:Nat):Int)))),(.v (.int .i64 (d))),(.v (.int .i64 (q))),(.xl (y) (P.length) 3 (cT P))] 24)),(1,(.cells (cI (tabL (litF (cT P) q (cI C) C.length) n)) 3))]⟩) (BaseW.H (bw v 0 eb ec) hs) (Hd.AfterN Try.prog 23 rhK9 (bw v 0 eb ec) (OutM Try.prog Try.f26 23 ((.v (.bool (hoB (cT P) q d (cI C) C.length n)))) [] (bw v 0 eb ec))):=by
 have hcl_C:=cI_len C
 obtain ⟨hR,hch⟩:=icE_zero hE
 obtain ⟨hm,⟨ha1,ha2,ha3⟩,hp⟩:=roE_zero hR
 exact Hd.goes_loopA (id:=0) (by kernel_rfl) (by kernel_rfl) (fun j:{j:Nat // j≤n∧∀ k,k < j→d < litF (cT P) q (cI C) C.length k}=>⟨[(2,(.ptr 0 0)),(5,(.sl 1 0 (n) (n))),(6,(.v (.int .i64 ((j.1:Nat):Int))))],[],2,[(0,(.cells [(.v (.int .i64 (((n:Nat):Int)))),(.v (.int .i64 (d))),(.v (.int .i64 (q))),(.xl (y) (P.length) 3 (cT P))] 24)),(1,(.cells (cI (tabL (litF (cT P) q (cI C) C.length) n)) 3))]⟩) (fun j:{j:Nat // j≤n∧∀ k,k < j→d < litF (cT P) q (cI C) C.length k}=>n - j.1) (fun ix_ hs=>rh_17 n d q y P z C hE hC ix_.1 ix_.2.1 ix_.2.2 v eb ec hs) ⟨0,Nat.zero_le _,(fun k hk=>by omega)⟩ hs
theorem rh_14 (n:Nat) (d q:Int) (y:Value) (P:List (Int×Int×Int)) (z:Value) (C:List Int) (hE:icE ((n:Nat):Int) d q (cT P) P.length (cI C) C.length=0) (hC:C.length≤1000) (v:BaseW) (eb:Nat→Option Nat) (ec:Nat→Nat) (hs:List Nat):Goes Try.prog 23 rhK12 (⟨[(2,(.ptr 0 0)),(5,(.sl 1 0 (n) (n))),qI2_4],[],2,[(0,(.cells [(.v (.int .i64 (((n:Nat):Int)))),(.v (.int .i64 (d))),(.v (.int .i64 (q))),(.xl (y) (P.length) 3 (cT P))] 24)),(1,(.cells (cI (tabL (litF (cT P) q (cI C) C.length) n)) 3))]⟩) (BaseW.H (bw v 0 eb ec) hs) (Hd.AfterN Try.prog 23 rhK9 (bw v 0 eb ec) (OutM Try.prog Try.f26 23 ((.v (.bool (hoB (cT P) q d (cI C) C.length n)))) [] (bw v 0 eb ec))):=by
 exact rh_15 n d q y P z C hE hC v eb ec hs
theorem rh_11 (n:Nat) (d q:Int) (y:Value) (P:List (Int×Int×Int)) (z:Value) (C:List Int) (hE:icE ((n:Nat):Int) d q (cT P) P.length (cI C) C.length=0) (hC:C.length≤1000) (v:BaseW) (eb:Nat→Option Nat) (ec:Nat→Nat) (hs:List Nat):Goes Try.prog 23 rhK10 (⟨[(2,(.ptr 0 0)),(5,(.sl 1 0 (n) (n)))],[],2,[(0,(.cells [(.v (.int .i64 (((n:Nat):Int)))),(.v (.int .i64 (d))),(.v (.int .i64 (q))),(.xl (y) (P.length) 3 (cT P))] 24)),(1,(.cells (cI (tabL (litF (cT P) q (cI C) C.length) n)) 3))]⟩) (BaseW.H (bw v 0 eb ec) hs) (Hd.AfterN Try.prog 23 rhK9 (bw v 0 eb ec) (OutM Try.prog Try.f26 23 ((.v (.bool (hoB (cT P) q d (cI C) C.length n)))) [] (bw v 0 eb ec))):=by
 have hcl_C:=cI_len C
 obtain ⟨hR,hch⟩:=icE_zero hE
 obtain ⟨hm,⟨ha1,ha2,ha3⟩,hp⟩:=roE_zero hR
 refine Hd.goes_seqA (by kernel_rfl) ?_
 exact goes_leafA isN_e (goes_told Try.checked.mixed (known_rl) 200 (T':=⟨[(2,(.ptr 0 0)),(5,(.sl 1 0 (n) (n))),qI2_4],[],2,[(0,(.cells [(.v (.int .i64 (((n:Nat):Int)))),(.v (.int .i64 (d))),(.v (.int .i64 (q))),(.xl (y) (P.length) 3 (cT P))] 24)),(1,(.cells (cI (tabL (litF (cT P) q (cI C) C.length) n)) 3))]⟩) (e:=.normal) (ps:=[]) [.go] (by kernel_rfl) (by kernel_rfl) trivial rfl) (Hd.en_n (rh_14 n d q y P z C hE hC v eb ec hs))
theorem rh_8 (n:Nat) (d q:Int) (y:Value) (P:List (Int×Int×Int)) (z:Value) (C:List Int) (hE:icE ((n:Nat):Int) d q (cT P) P.length (cI C) C.length=0) (hC:C.length≤1000) (v:BaseW) (eb:Nat→Option Nat) (ec:Nat→Nat) (hs:List Nat):Goes Try.prog 23 rhK6 (⟨[(2,(.ptr 0 0)),(5,(.sl 1 0 (n) (n)))],[],2,[(0,(.cells [(.v (.int .i64 (((n:Nat):Int)))),(.v (.int .i64 (d))),(.v (.int .i64 (q))),(.xl (y) (P.length) 3 (cT P))] 24)),(1,(.cells (cI (tabL (litF (cT P) q (cI C) C.length) n)) 3))]⟩) (BaseW.H (bw v 0 eb ec) hs) (OutM Try.prog Try.f26 23 ((.v (.bool (hoB (cT P) q d (cI C) C.length n)))) [] (bw v 0 eb ec)):=by
 exact Hd.goes_seqA (by kernel_rfl) (rh_11 n d q y P z C hE hC v eb ec hs)
theorem rh_5 (n:Nat) (d q:Int) (y:Value) (P:List (Int×Int×Int)) (z:Value) (C:List Int) (hE:icE ((n:Nat):Int) d q (cT P) P.length (cI C) C.length=0) (hC:C.length≤1000) (v:BaseW) (eb:Nat→Option Nat) (ec:Nat→Nat) (hs:List Nat):Goes Try.prog 23 rhK3 (⟨[(qI2_2 C z),(2,(.ptr 0 0))],[],1,[(0,(.cells [(.v (.int .i64 (((n:Nat):Int)))),(.v (.int .i64 (d))),(.v (.int .i64 (q))),(.xl (y) (P.length) 3 (cT P))] 24))]⟩) (BaseW.H (bw v 0 eb ec) hs) (OutM Try.prog Try.f26 23 ((.v (.bool (hoB (cT P) q d (cI C) C.length n)))) [] (bw v 0 eb ec)):=by
 have hcl_C:=cI_len C
 obtain ⟨hR,hch⟩:=icE_zero hE
 obtain ⟨hm,⟨ha1,ha2,ha3⟩,hp⟩:=roE_zero hR
 refine Hd.goes_seqA (by kernel_rfl) ?_
 exact goes_leafA isN_e (goes_told Try.checked.mixed (known_rl) 200 (T':=⟨[(2,(.ptr 0 0)),(5,(.sl 1 0 (n) (n)))],[],2,[(0,(.cells [(.v (.int .i64 (((n:Nat):Int)))),(.v (.int .i64 (d))),(.v (.int .i64 (q))),(.xl (y) (P.length) 3 (cT P))] 24)),(1,(.cells (cI (tabL (litF (cT P) q (cI C) C.length) n)) 3))]⟩) (e:=.normal) (ps:=[FreeL (cT P),FreeL (cI C),IsT P.length (cT P),IsC 1 C.length (cI C),icE (((n:Nat):Int)) d q (cT P) P.length (cI C) C.length=0,C.length≤1000]) [.go,.go,.go] (by kernel_rfl) (by kernel_rfl) ⟨(freeL_plain (cT_plain P)),(freeL_plain (cI_plain C)),⟨P,rfl,rfl⟩,⟨rfl,_,rfl,rfl⟩,hE,hC,trivial⟩ rfl) (Hd.en_n (rh_8 n d q y P z C hE hC v eb ec hs))
theorem rh_2 (n:Nat) (d q:Int) (y:Value) (P:List (Int×Int×Int)) (z:Value) (C:List Int) (hE:icE ((n:Nat):Int) d q (cT P) P.length (cI C) C.length=0) (hC:C.length≤1000) (v:BaseW) (eb:Nat→Option Nat) (ec:Nat→Nat) (hs:List Nat):Goes Try.prog 23 rhK1 (⟨[(0,(.agg [.v (.int .i64 ((n:Nat):Int)),.v (.int .i64 d),.v (.int .i64 q),.xl y P.length 3 (cT P)])),(qI2_5 C z)],[],0,[]⟩) (BaseW.H (bw v 0 eb ec) hs) (OutM Try.prog Try.f26 23 ((.v (.bool (hoB (cT P) q d (cI C) C.length n)))) [] (bw v 0 eb ec)):=by
 have hcl_C:=cI_len C
 obtain ⟨hR,hch⟩:=icE_zero hE
 obtain ⟨hm,⟨ha1,ha2,ha3⟩,hp⟩:=roE_zero hR
 refine Hd.goes_seqA (by kernel_rfl) ?_
 exact goes_leafA isN_e (goes_told Try.checked.mixed (known_rl) 200 (T':=⟨[(qI2_2 C z),(2,(.ptr 0 0))],[],1,[(0,(.cells [(.v (.int .i64 (((n:Nat):Int)))),(.v (.int .i64 (d))),(.v (.int .i64 (q))),(.xl (y) (P.length) 3 (cT P))] 24))]⟩) (e:=.normal) (ps:=[]) [.go,.go] (by kernel_rfl) (by kernel_rfl) trivial rfl) (Hd.en_n (rh_5 n d q y P z C hE hC v eb ec hs))
theorem rholds_g (n:Nat) (d q:Int) (y:Value) (P:List (Int×Int×Int)) (z:Value) (C:List Int) (hE:icE ((n:Nat):Int) d q (cT P) P.length (cI C) C.length=0) (hC:C.length≤1000):GivesM Try.prog 26 [(.agg [.v (.int .i64 ((n:Nat):Int)),.v (.int .i64 d),.v (.int .i64 q),.xl y P.length 3 (cT P)]),(.xl z C.length 1 (cI C))] [] ((.v (.bool (hoB (cT P) q d (cI C) C.length n)))) [] :=
 givesM_parts 23 (by kernel_rfl) Try.func26 (by kernel_rfl) (by kernel_rfl) (by kernel_rfl) (fun v eb ec=>goes_less (by kernel_rfl) (by kernel_rfl) (by kernel_rfl) (by kernel_rfl) (rh_2 n d q y P z C hE hC v eb ec []))
noncomputable def rcK1:Code:=bodyC Try.f36
noncomputable def rcK3:Code:=tlC rcK1
noncomputable def rcK6:Code:=tlC rcK3
noncomputable def rcK9:Code:=tlC rcK6
noncomputable def rcK10:Code:=(hdC rcK6)
noncomputable def rcK12:Code:=tlC rcK10
noncomputable def rcK16:Code:=loopC rcK12
theorem rc_19 (n:Nat) (d q:Int) (y:Value) (P:List (Int×Int×Int)) (z:Value) (C:List Int) (hE:icE ((n:Nat):Int) d q (cT P) P.length (cI C) C.length=0) (hC:C.length≤1000) (h0b:True) (hqrc18_1:(ltI ((C.length:Nat):Int) ((C.length:Nat):Int))=false) (w:World) (hs:List Nat):Goes Try.prog 25 rcK9 (⟨[(5,(.v (.int .i64 (suC (cT P) (cI C) (C.length)))))],[],1,[]⟩) (BaseW.H w hs) (OutH Try.prog Try.f36 25 (.int .i64 (suC (cT P) (cI C) C.length)) w):=by
 have hcl_C:=cI_len C
 obtain ⟨hR,hch⟩:=icE_zero hE
 obtain ⟨hm,⟨ha1,ha2,ha3⟩,hp⟩:=roE_zero hR
 have hcT:=cT_len P
 have ghqrc18_1:=ltI_false hqrc18_1
 exact goes_leafA isR_e (goes_told Try.checked.mixed (known_none) 200 (T':=⟨[(4,(.v (.int .i64 (suC (cT P) (cI C) C.length))))],[],1,[]⟩) (e:=.ret) (ps:=[]) [.go,.go] (by kernel_rfl) (by kernel_rfl) trivial rfl) (Hd.en_eq (r:=(.int .i64 (suC (cT P) (cI C) C.length))) (by rfl) (Hd.en_ret (v:=(.v (.int .i64 (suC (cT P) (cI C) C.length)))) (by kernel_rfl) rfl))
theorem rc_17 (n:Nat) (d q:Int) (y:Value) (P:List (Int×Int×Int)) (z:Value) (C:List Int) (hE:icE ((n:Nat):Int) d q (cT P) P.length (cI C) C.length=0) (hC:C.length≤1000) (i:Nat) (hi1:i≤C.length) (hi2:True) (w:World) (hs:List Nat):Goes Try.prog 25 rcK16 (⟨[(qI2_2 C z),(2,(.ptr 0 0)),(5,(.v (.int .i64 (suC (cT P) (cI C) i)))),(6,(.v (.int .i64 ((i:Nat):Int))))],[],1,[(0,(.cells [(.v (.int .i64 (((n:Nat):Int)))),(.v (.int .i64 (d))),(.v (.int .i64 (q))),(.xl (y) (P.length) 3 (cT P))] 24))]⟩) (BaseW.H w hs) (Hd.StepC Try.prog 25 0 (fun i:{i:Nat // i≤C.length∧True}=>⟨[(qI2_2 C z),(2,(.ptr 0 0)),(5,(.v (.int .i64 (suC (cT P) (cI C) i.1)))),(6,(.v (.int .i64 ((i.1:Nat):Int))))],[],1,[(0,(.cells [(.v (.int .i64 (((n:Nat):Int)))),(.v (.int .i64 (d))),(.v (.int .i64 (q))),(.xl (y) (P.length) 3 (cT P))] 24))]⟩) (fun i:{i:Nat // i≤C.length∧True}=>C.length - i.1) rcK9 w (OutH Try.prog Try.f36 25 (.int .i64 (suC (cT P) (cI C) C.length)) w) (⟨i,hi1,hi2⟩:{i:Nat // i≤C.length∧True})):=by
 have hcl_C:=cI_len C
 obtain ⟨hR,hch⟩:=icE_zero hE
 obtain ⟨hm,⟨ha1,ha2,ha3⟩,hp⟩:=roE_zero hR
 have hcT:=cT_len P
 rcases Bool.eq_false_or_eq_true (ltI ((i:Nat):Int) ((C.length:Nat):Int)) with hqrc18_1 | hqrc18_1
 ·skip
  have ghqrc18_1:=ltI_true hqrc18_1
  have hxi:=hch.1 i (by omega)
  have hpi:=hp (intAt (cI C) (i * 1)).toNat (by omega)
  unfold posP at hpi
  have hsb:=suC_bd (c:=cT P) (xs:=cI C) (k:=i) (fun k hk=>by have h1:=hch.1 k (by omega); have h2:=hp (intAt (cI C) (k * 1)).toNat (by omega); unfold posP at h2; unfold coI; rw [Nat.zero_add]; exact ⟨h2.2.2.2.1,h2.2.2.2.2⟩)
  exact goes_leafA isN_e (goes_told Try.checked.mixed (known_none) 200 (T':=⟨[(qI2_2 C z),(2,(.ptr 0 0)),(5,(.v (.int .i64 (suC (cT P) (cI C) i + intAt (cT P) ((intAt (cI C) (i * 1)).toNat * 3 + 2))))),(qI2_1 i)],[],1,[(0,(.cells [(.v (.int .i64 (((n:Nat):Int)))),(.v (.int .i64 (d))),(.v (.int .i64 (q))),(.xl (y) (P.length) 3 (cT P))] 24))]⟩) (e:=.normal) (ps:=[ltI ((i:Nat):Int) ((C.length:Nat):Int)=true,i < C.length,loadL Try.prog (cI C) (i * 1) 3=some (AV.v (Value.int IntKind.i64 (intAt (cI C) (i * 1)))),0≤intAt (cI C) (i * 1),(intAt (cI C) (i * 1)).toNat < P.length,(intAt (cI C) (i * 1)).toNat * 3 + 2 < ((cT P):List AV).length,loadL Try.prog (cT P) ((intAt (cI C) (i * 1)).toNat * 3 + 2) 2=some (AV.v (Value.int IntKind.i64 (intAt (cT P) ((intAt (cI C) (i * 1)).toNat * 3 + 2)))),inR IntKind.i64 (suC (cT P) (cI C) i + intAt (cT P) ((intAt (cI C) (i * 1)).toNat * 3 + 2)),inR IntKind.i64 (((i:Nat):Int) + 1)]) [.go,.go,.go,.go,.b true,.go,.go,.go,.go,.go,.sym,.sym,.nat,.sym,.sym,.go,.go,.go,.go,.go] (by kernel_rfl) (by kernel_rfl) ⟨hqrc18_1,(by omega),(by rw [Nat.mul_one]; exact cI_load (by omega) 3 (Try.underlying3) rfl),(by omega),(by omega),(by omega),(cT_ld (by omega) 2 (Try.underlying2) rfl),(by show -9223372036854775808≤_∧_≤9223372036854775807; constructor <;> omega),(by show -9223372036854775808≤_∧_≤9223372036854775807; constructor <;> omega),trivial⟩ rfl) (Hd.en_on (⟨i + 1,by omega,trivial⟩) (by show C.length - (i + 1) < C.length - i; omega) (show (⟨[(qI2_2 C z),(2,(.ptr 0 0)),(5,(.v (.int .i64 (suC (cT P) (cI C) i + intAt (cT P) ((intAt (cI C) (i * 1)).toNat * 3 + 2))))),(qI2_1 i)],[],1,[(0,(.cells [(.v (.int .i64 (((n:Nat):Int)))),(.v (.int .i64 (d))),(.v (.int .i64 (q))),(.xl (y) (P.length) 3 (cT P))] 24))]⟩:Ev.Lit)=⟨[(qI2_2 C z),(2,(.ptr 0 0)),(5,(.v (.int .i64 (suC (cT P) (cI C) (i + 1))))),(qI2_1 i)],[],1,[(0,(.cells [(.v (.int .i64 (((n:Nat):Int)))),(.v (.int .i64 (d))),(.v (.int .i64 (q))),(.xl (y) (P.length) 3 (cT P))] 24))]⟩ from by have hz_:=congrArg (fun (xq0:Ev.AV)=>(⟨[(qI2_2 C z),(2,(.ptr 0 0)),(5,xq0),(qI2_1 i)],[],1,[(0,(.cells [(.v (.int .i64 (((n:Nat):Int)))),(.v (.int .i64 (d))),(.v (.int .i64 (q))),(.xl (y) (P.length) 3 (cT P))] 24))]⟩:Ev.Lit)) (congrArg (fun z=>Ev.AV.v (.int .i64 z)) (show ((suC (cT P) (cI C) i + intAt (cT P) ((intAt (cI C) (i * 1)).toNat * 3 + 2)):Int)=(suC (cT P) (cI C) (i + 1)) from by (rw [suC,coI,Nat.zero_add]))); exact hz_))
 ·skip
  have ghqrc18_1:=ltI_false hqrc18_1
  obtain rfl:i=C.length:=by omega
  exact goes_leafA isX_e (goes_told Try.checked.mixed (known_none) 200 (T':=⟨[(5,(.v (.int .i64 (suC (cT P) (cI C) (C.length)))))],[],1,[]⟩) (e:=.exit 0) (ps:=[ltI ((C.length:Nat):Int) ((C.length:Nat):Int)=false]) [.go,.go,.go,.go,.b false] (by kernel_rfl) (by kernel_rfl) ⟨hqrc18_1,trivial⟩ rfl) (Hd.en_sx (rc_19 n d q y P z C hE hC hi2  hqrc18_1 w hs))
theorem rc_15 (n:Nat) (d q:Int) (y:Value) (P:List (Int×Int×Int)) (z:Value) (C:List Int) (hE:icE ((n:Nat):Int) d q (cT P) P.length (cI C) C.length=0) (hC:C.length≤1000) (w:World) (hs:List Nat):Goes Try.prog 25 rcK12 (⟨[(qI2_2 C z),(2,(.ptr 0 0)),qI2_3,qI2_4],[],1,[(0,(.cells [(.v (.int .i64 (((n:Nat):Int)))),(.v (.int .i64 (d))),(.v (.int .i64 (q))),(.xl (y) (P.length) 3 (cT P))] 24))]⟩) (BaseW.H w hs) (Hd.AfterN Try.prog 25 rcK9 w (OutH Try.prog Try.f36 25 (.int .i64 (suC (cT P) (cI C) C.length)) w)):=by
 have hcl_C:=cI_len C
 obtain ⟨hR,hch⟩:=icE_zero hE
 obtain ⟨hm,⟨ha1,ha2,ha3⟩,hp⟩:=roE_zero hR
 have hcT:=cT_len P
 rw [show (⟨[(qI2_2 C z),(2,(.ptr 0 0)),qI2_3,qI2_4],[],1,[(0,(.cells [(.v (.int .i64 (((n:Nat):Int)))),(.v (.int .i64 (d))),(.v (.int .i64 (q))),(.xl (y) (P.length) 3 (cT P))] 24))]⟩:Ev.Lit)=⟨[(qI2_2 C z),(2,(.ptr 0 0)),(5,(.v (.int .i64 (suC (cT P) (cI C) 0)))),(6,(.v (.int .i64 ((0:Nat):Int))))],[],1,[(0,(.cells [(.v (.int .i64 (((n:Nat):Int)))),(.v (.int .i64 (d))),(.v (.int .i64 (q))),(.xl (y) (P.length) 3 (cT P))] 24))]⟩ from by rfl]
 exact Hd.goes_loopA (id:=0) (by kernel_rfl) (by kernel_rfl) (fun i:{i:Nat // i≤C.length∧True}=>⟨[(qI2_2 C z),(2,(.ptr 0 0)),(5,(.v (.int .i64 (suC (cT P) (cI C) i.1)))),(6,(.v (.int .i64 ((i.1:Nat):Int))))],[],1,[(0,(.cells [(.v (.int .i64 (((n:Nat):Int)))),(.v (.int .i64 (d))),(.v (.int .i64 (q))),(.xl (y) (P.length) 3 (cT P))] 24))]⟩) (fun i:{i:Nat // i≤C.length∧True}=>C.length - i.1) (fun ix_ hs=>rc_17 n d q y P z C hE hC ix_.1 ix_.2.1 ix_.2.2 w hs) ⟨0,Nat.zero_le _,trivial⟩ hs
theorem rc_14 (n:Nat) (d q:Int) (y:Value) (P:List (Int×Int×Int)) (z:Value) (C:List Int) (hE:icE ((n:Nat):Int) d q (cT P) P.length (cI C) C.length=0) (hC:C.length≤1000) (w:World) (hs:List Nat):Goes Try.prog 25 rcK12 (⟨[(qI2_2 C z),(2,(.ptr 0 0)),qI2_3,qI2_4],[],1,[(0,(.cells [(.v (.int .i64 (((n:Nat):Int)))),(.v (.int .i64 (d))),(.v (.int .i64 (q))),(.xl (y) (P.length) 3 (cT P))] 24))]⟩) (BaseW.H w hs) (Hd.AfterN Try.prog 25 rcK9 w (OutH Try.prog Try.f36 25 (.int .i64 (suC (cT P) (cI C) C.length)) w)):=by
 exact rc_15 n d q y P z C hE hC w hs
theorem rc_11 (n:Nat) (d q:Int) (y:Value) (P:List (Int×Int×Int)) (z:Value) (C:List Int) (hE:icE ((n:Nat):Int) d q (cT P) P.length (cI C) C.length=0) (hC:C.length≤1000) (w:World) (hs:List Nat):Goes Try.prog 25 rcK10 (⟨[(qI2_2 C z),(2,(.ptr 0 0)),qI2_3],[],1,[(0,(.cells [(.v (.int .i64 (((n:Nat):Int)))),(.v (.int .i64 (d))),(.v (.int .i64 (q))),(.xl (y) (P.length) 3 (cT P))] 24))]⟩) (BaseW.H w hs) (Hd.AfterN Try.prog 25 rcK9 w (OutH Try.prog Try.f36 25 (.int .i64 (suC (cT P) (cI C) C.length)) w)):=by
 have hcl_C:=cI_len C
 obtain ⟨hR,hch⟩:=icE_zero hE
 obtain ⟨hm,⟨ha1,ha2,ha3⟩,hp⟩:=roE_zero hR
 have hcT:=cT_len P
 refine Hd.goes_seqA (by kernel_rfl) ?_
 exact goes_leafA isN_e (goes_told Try.checked.mixed (known_none) 200 (T':=⟨[(qI2_2 C z),(2,(.ptr 0 0)),qI2_3,qI2_4],[],1,[(0,(.cells [(.v (.int .i64 (((n:Nat):Int)))),(.v (.int .i64 (d))),(.v (.int .i64 (q))),(.xl (y) (P.length) 3 (cT P))] 24))]⟩) (e:=.normal) (ps:=[]) [.go] (by kernel_rfl) (by kernel_rfl) trivial rfl) (Hd.en_n (rc_14 n d q y P z C hE hC w hs))
theorem rc_8 (n:Nat) (d q:Int) (y:Value) (P:List (Int×Int×Int)) (z:Value) (C:List Int) (hE:icE ((n:Nat):Int) d q (cT P) P.length (cI C) C.length=0) (hC:C.length≤1000) (w:World) (hs:List Nat):Goes Try.prog 25 rcK6 (⟨[(qI2_2 C z),(2,(.ptr 0 0)),qI2_3],[],1,[(0,(.cells [(.v (.int .i64 (((n:Nat):Int)))),(.v (.int .i64 (d))),(.v (.int .i64 (q))),(.xl (y) (P.length) 3 (cT P))] 24))]⟩) (BaseW.H w hs) (OutH Try.prog Try.f36 25 (.int .i64 (suC (cT P) (cI C) C.length)) w):=by
 exact Hd.goes_seqA (by kernel_rfl) (rc_11 n d q y P z C hE hC w hs)
theorem rc_5 (n:Nat) (d q:Int) (y:Value) (P:List (Int×Int×Int)) (z:Value) (C:List Int) (hE:icE ((n:Nat):Int) d q (cT P) P.length (cI C) C.length=0) (hC:C.length≤1000) (w:World) (hs:List Nat):Goes Try.prog 25 rcK3 (⟨[(qI2_2 C z),(2,(.ptr 0 0))],[],1,[(0,(.cells [(.v (.int .i64 (((n:Nat):Int)))),(.v (.int .i64 (d))),(.v (.int .i64 (q))),(.xl (y) (P.length) 3 (cT P))] 24))]⟩) (BaseW.H w hs) (OutH Try.prog Try.f36 25 (.int .i64 (suC (cT P) (cI C) C.length)) w):=by
 have hcl_C:=cI_len C
 obtain ⟨hR,hch⟩:=icE_zero hE
 obtain ⟨hm,⟨ha1,ha2,ha3⟩,hp⟩:=roE_zero hR
 have hcT:=cT_len P
 refine Hd.goes_seqA (by kernel_rfl) ?_
 exact goes_leafA isN_e (goes_told Try.checked.mixed (known_none) 200 (T':=⟨[(qI2_2 C z),(2,(.ptr 0 0)),qI2_3],[],1,[(0,(.cells [(.v (.int .i64 (((n:Nat):Int)))),(.v (.int .i64 (d))),(.v (.int .i64 (q))),(.xl (y) (P.length) 3 (cT P))] 24))]⟩) (e:=.normal) (ps:=[]) [.go] (by kernel_rfl) (by kernel_rfl) trivial rfl) (Hd.en_n (rc_8 n d q y P z C hE hC w hs))
theorem rc_2 (n:Nat) (d q:Int) (y:Value) (P:List (Int×Int×Int)) (z:Value) (C:List Int) (hE:icE ((n:Nat):Int) d q (cT P) P.length (cI C) C.length=0) (hC:C.length≤1000) (w:World) (hs:List Nat):Goes Try.prog 25 rcK1 (⟨[(0,(.agg [.v (.int .i64 ((n:Nat):Int)),.v (.int .i64 d),.v (.int .i64 q),.xl y P.length 3 (cT P)])),(qI2_5 C z)],[],0,[]⟩) (BaseW.H w hs) (OutH Try.prog Try.f36 25 (.int .i64 (suC (cT P) (cI C) C.length)) w):=by
 have hcl_C:=cI_len C
 obtain ⟨hR,hch⟩:=icE_zero hE
 obtain ⟨hm,⟨ha1,ha2,ha3⟩,hp⟩:=roE_zero hR
 have hcT:=cT_len P
 refine Hd.goes_seqA (by kernel_rfl) ?_
 exact goes_leafA isN_e (goes_told Try.checked.mixed (known_none) 200 (T':=⟨[(qI2_2 C z),(2,(.ptr 0 0))],[],1,[(0,(.cells [(.v (.int .i64 (((n:Nat):Int)))),(.v (.int .i64 (d))),(.v (.int .i64 (q))),(.xl (y) (P.length) 3 (cT P))] 24))]⟩) (e:=.normal) (ps:=[]) [.go,.go] (by kernel_rfl) (by kernel_rfl) trivial rfl) (Hd.en_n (rc_5 n d q y P z C hE hC w hs))
theorem rcost_g (n:Nat) (d q:Int) (y:Value) (P:List (Int×Int×Int)) (z:Value) (C:List Int) (hE:icE ((n:Nat):Int) d q (cT P) P.length (cI C) C.length=0) (hC:C.length≤1000):GivesA Try.prog 36 [(.agg [.v (.int .i64 ((n:Nat):Int)),.v (.int .i64 d),.v (.int .i64 q),.xl y P.length 3 (cT P)]),(.xl z C.length 1 (cI C))] (.int .i64 (suC (cT P) (cI C) C.length)) :=
 givesA_partsH 25 Try.func36 (by kernel_rfl) (by kernel_rfl) (by kernel_rfl) (fun w=>goes_less (by kernel_rfl) (by kernel_rfl) (by kernel_rfl) (by kernel_rfl) (rc_2 n d q y P z C hE hC w []))
def ckS:List AV→Option (Res1×List Prop):=fun args =>
 match args with
 | [a,.xl z k j e]=>match roadV a with
  | some (n,d,q,y,m,c)=>some (.val (.v (.int .i64 (icE n d q c m e k))),[IsT m c,IsC j k e,k≤1000])
  | none=>none
 | _=>none
def ckO:OrcH:=extOrc 40 ckS
theorem known_ck:Known Try.prog (clsO ckO):=known_ext (fun args r ps h hp=>by
 unfold ckS at h
 split at h
 ·split at h
  ·rename_i n d q y m c e2
   cases h
   obtain ⟨⟨P,rfl,rfl⟩,⟨rfl,C,rfl,rfl⟩,hk,-⟩:=hp
   rw [roadV_eq e2]
   exact ⟨extL_cons (ext_road n d q y P) (extL_cons (ext_xl (extL_cI C)) extL_nil),_,rfl,check_g n d q y P _ C hk⟩
  ·cases h
 ·cases h)
def isS:List AV→Option (Res1×List Prop):=fun args =>
 match args with
 | [a,.xl z k j e]=>match roadV a with
  | some (n,d,q,y,m,c)=>some (.val (.v (.int .i64 (icE n d q c m e k))),[IsT m c,IsC j k e,k≤1000])
  | none=>none
 | _=>none
def isO:OrcH:=extOrc 25 isS
theorem known_is:Known Try.prog (clsO isO):=known_ext (fun args r ps h hp=>by
 unfold isS at h
 split at h
 ·split at h
  ·rename_i n d q y m c e2
   cases h
   obtain ⟨⟨P,rfl,rfl⟩,⟨rfl,C,rfl,rfl⟩,hk,-⟩:=hp
   rw [roadV_eq e2]
   exact ⟨extL_cons (ext_road n d q y P) (extL_cons (ext_xl (extL_cI C)) extL_nil),_,rfl,isch_g n d q y P _ C hk⟩
  ·cases h
 ·cases h)
def ltSc:List AV→List AB→Option ((AV×List AB)×List Prop):=fun args xs =>
 match args with
 | [.agg l]=>match rdV l,xs with
  | some (n,d,q,y,m,c),[]=>some ((.sl 0 0 n.toNat n.toNat,[.cells (cI (tabL (litF c q (cI (flt (stnd l) m)) (flt (stnd l) m).length) n.toNat)) 3]),[IsRd l,roE n d q c m=0,(flt (stnd l) m).length=0∨0 < (flt (stnd l) m).length])
  | _,_=>none
 | _=>none
def ltOc:OrcH:=mOrc 42 ltSc
theorem lit_g (n:Nat) (d q:Int) (y:Value) (P:List (Int×Int×Int)) (st:Nat→Bool) (hE:roE ((n:Nat):Int) d q (cT P) P.length=0):GivesM Try.prog 42 [.agg (rdT [.v (.int .i64 ((n:Nat):Int)),.v (.int .i64 d),.v (.int .i64 q),.xl y P.length 3 (cT P)] (st))] [] (.sl 0 0 n n) [.cells (cI (tabL (litF (cT P) q (cI (flt (stM ((n:Nat):Int) d q y P st) P.length)) (flt (stM ((n:Nat):Int) d q y P st) P.length).length) n)) 3]:=by
 rcases Nat.eq_zero_or_pos (flt (stM ((n:Nat):Int) d q y P st) P.length).length with h0 | h0
 ·have:=lit_a n d q y P st hE h0
  rw [h0]
  exact this
 ·exact lit_b n d q y P st hE h0
theorem known_ltc:Known Try.prog (clsO ltOc):=known_m (fun args xs r ys ps h hp=>by
 unfold ltSc at h
 split at h
 ·split at h
  ·rename_i n d q y m c e
   cases h
   obtain ⟨⟨n,d,q,y,P,st,rfl⟩,hE,-⟩:=hp
   obtain ⟨rfl,rfl,rfl,rfl,rfl,rfl⟩:=rdV_eq e
   obtain ⟨k,rfl⟩:∃ k:Nat,n=((k:Nat):Int):=⟨n.toNat,by have h9:=(roE_zero hE).2.1.1; omega⟩
   refine ⟨fun x hx=>absurd hx List.not_mem_nil,fun x hx=>?_,lit_g k _ _ _ P st hE⟩
   rcases List.mem_cons.1 hx with rfl | hx
   ·exact freeB_cells (freeL_plain (cI_plain _))
   ·exact absurd hx List.not_mem_nil
  ·cases h
 ·cases h)
def hoS:List AV→List AB→Option ((AV×List AB)×List Prop):=fun args xs =>
 match args with
 | [.agg l]=>match rdV l,xs with
  | some (n,d,q,y,m,c),[]=>some ((.v (.bool (hoB c q d (cI (flt (stnd l) m)) (flt (stnd l) m).length n.toNat)),[]),[IsRd l,roE n d q c m=0])
  | _,_=>none
 | _=>none
def hoO:OrcH:=mOrc 44 hoS
theorem known_ho:Known Try.prog (clsO hoO):=known_m (fun args xs r ys ps h hp=>by
 unfold hoS at h
 split at h
 ·split at h
  ·rename_i n d q y m c e
   cases h
   obtain ⟨⟨n,d,q,y,P,st,rfl⟩,hE,-⟩:=hp
   obtain ⟨rfl,rfl,rfl,rfl,rfl,rfl⟩:=rdV_eq e
   obtain ⟨k,rfl⟩:∃ k:Nat,n=((k:Nat):Int):=⟨n.toNat,by have h9:=(roE_zero hE).2.1.1; omega⟩
   exact ⟨fun x hx=>absurd hx List.not_mem_nil,fun x hx=>absurd hx List.not_mem_nil,holds_g k _ _ _ P st hE⟩
  ·cases h
 ·cases h)
def csS:List AV→List AB→Option ((AV×List AB)×List Prop):=fun args xs =>
 match args with
 | [.agg l]=>match rdV l,xs with
  | some (n,d,q,y,m,c),[]=>some ((.v (.int .i64 (suC c (cI (flt (stnd l) m)) (flt (stnd l) m).length)),[]),[IsRd l,roE n d q c m=0])
  | _,_=>none
 | _=>none
def csO:OrcH:=mOrc 45 csS
theorem known_cs:Known Try.prog (clsO csO):=known_m (fun args xs r ys ps h hp=>by
 unfold csS at h
 split at h
 ·split at h
  ·rename_i n d q y m c e
   cases h
   obtain ⟨⟨n,d,q,y,P,st,rfl⟩,hE,-⟩:=hp
   obtain ⟨rfl,rfl,rfl,rfl,rfl,rfl⟩:=rdV_eq e
   obtain ⟨k,rfl⟩:∃ k:Nat,n=((k:Nat):Int):=⟨n.toNat,by have h9:=(roE_zero hE).2.1.1; omega⟩
   exact ⟨fun x hx=>absurd hx List.not_mem_nil,fun x hx=>absurd hx List.not_mem_nil,cost_g k _ _ _ P st hE⟩
  ·cases h
 ·cases h)
def rhS:List AV→List AB→Option ((AV×List AB)×List Prop):=fun args xs =>
 match args with
 | [a,.xl z k j e]=>match roadV a,xs with
  | some (n,d,q,y,m,c),[]=>some ((.v (.bool (hoB c q d e k n.toNat)),[]),[IsT m c,IsC j k e,icE n d q c m e k=0,k≤1000])
  | _,_=>none
 | _=>none
def rhO:OrcH:=mOrc 26 rhS
theorem known_rh:Known Try.prog (clsO rhO):=known_m (fun args xs r ys ps h hp=>by
 unfold rhS at h
 split at h
 ·split at h
  ·rename_i n d q y m c e2
   cases h
   obtain ⟨⟨P,rfl,rfl⟩,⟨rfl,C,rfl,rfl⟩,hE,hk,-⟩:=hp
   obtain ⟨n,rfl⟩:∃ k:Nat,n=((k:Nat):Int):=⟨n.toNat,by have h9:=(roE_zero (icE_zero hE).1).2.1.1; omega⟩
   rw [roadV_eq e2]
   exact ⟨fun x hx=>absurd hx List.not_mem_nil,fun x hx=>absurd hx List.not_mem_nil,rholds_g n d q y P _ C hE hk⟩
  ·cases h
 ·cases h)
def rcS:List AV→Option (Res1×List Prop):=fun args =>
 match args with
 | [a,.xl z k j e]=>match roadV a with
  | some (n,d,q,y,m,c)=>some (.val (.v (.int .i64 (suC c e k))),[IsT m c,IsC j k e,icE n d q c m e k=0,k≤1000])
  | none=>none
 | _=>none
def rcO:OrcH:=extOrc 36 rcS
theorem known_rc:Known Try.prog (clsO rcO):=known_ext (fun args r ps h hp=>by
 unfold rcS at h
 split at h
 ·split at h
  ·rename_i n d q y m c e2
   cases h
   obtain ⟨⟨P,rfl,rfl⟩,⟨rfl,C,rfl,rfl⟩,hE,hk,-⟩:=hp
   obtain ⟨n,rfl⟩:∃ k:Nat,n=((k:Nat):Int):=⟨n.toNat,by have h9:=(roE_zero (icE_zero hE).1).2.1.1; omega⟩
   rw [roadV_eq e2]
   exact ⟨extL_cons (ext_road _ d q y P) (extL_cons (ext_xl (extL_cI C)) extL_nil),_,rfl,rcost_g n d q y P _ C hE hk⟩
  ·cases h
 ·cases h)
def o1O:OrcH:=orO (orO ckO nrO) (orO ltOc (orO hoO csO))
theorem known_o1:Known Try.prog (clsO o1O):=known_or (known_or known_ck known_nr) (known_or known_ltc (known_or known_ho known_cs))
def o2O:OrcH:=orO (orO isO rlO) (orO rhO rcO)
theorem known_o2:Known Try.prog (clsO o2O):=known_or (known_or known_is known_rl) (known_or known_rh known_rc)
noncomputable def oLbK1:Code:=bodyC Try.f15
theorem oLb_2 (n d q:Int) (y:Value) (P:List (Int×Int×Int)) (z:Value) (C:List Int) (hE:¬ icE n d q (cT P) P.length (cI C) C.length=0) (hC:C.length≤1000) (v:BaseW) (eb:Nat→Option Nat) (ec:Nat→Nat) (hs:List Nat):Goes Try.prog 17 oLbK1 (⟨[(0,(.agg [.v (.int .i64 n),.v (.int .i64 d),.v (.int .i64 q),.xl y P.length 3 (cT P)])),(qI2_5 C z)],[],0,[]⟩) (BaseW.H (bw v 0 eb ec) hs) (OutM Try.prog Try.f15 17 ((.tup [.v (.slice none 0 0),.v (.int .i64 (icE n d q (cT P) P.length (cI C) C.length))])) [] (bw v 0 eb ec)):=by
 have hcl_C:=cI_len C
 rcases Bool.eq_false_or_eq_true (eqI (icE n d q (cT P) P.length (cI C) C.length) 0) with hqoLb3_1 | hqoLb3_1
 ·skip
  have ghqoLb3_1:=eqI_true hqoLb3_1
  exact absurd (eqI_true hqoLb3_1) hE
 ·skip
  have ghqoLb3_1:=eqI_false hqoLb3_1
  exact goes_leafA isR_e (goes_cut Try.checked.mixed (known_o1) 200 (T':=⟨[(4,(.v (Value.slice none 0 0))),(5,(.v (.int .i64 (icE n d q (cT P) P.length (cI C) C.length))))],[],0,[]⟩) (e:=.ret) (m:=1) (ps:=[IsT P.length (cT P),IsC 1 C.length (cI C),C.length≤1000,(!eqI (icE n d q (cT P) P.length (cI C) C.length) 0)=true]) [.go,.go,.go,.go,.go,.go,.go,.go,.b true,.go,.go,.go] (by kernel_rfl) (by kernel_rfl) ⟨⟨P,rfl,rfl⟩,⟨rfl,_,rfl,rfl⟩,hC,(by rw [hqoLb3_1]; rfl),trivial⟩ rfl (by show 0≤1; decide) ⟨⟨nb_v _,nb_v _,trivial⟩,trivial,rfl⟩ (by show 0≤0; decide)) (en_eqM (r:=(.tup [(.v (Value.slice none 0 0)),(.v (.int .i64 (icE n d q (cT P) P.length (cI C) C.length)))])) (ys:=[]) (by rfl) (by rfl) (en_retM (by kernel_rfl) (by kernel_rfl) rfl (.inr rfl)))
theorem oLb (n d q:Int) (y:Value) (P:List (Int×Int×Int)) (z:Value) (C:List Int) (hE:¬ icE n d q (cT P) P.length (cI C) C.length=0) (hC:C.length≤1000):GivesM Try.prog 15 [(.agg [.v (.int .i64 n),.v (.int .i64 d),.v (.int .i64 q),.xl y P.length 3 (cT P)]),(.xl z C.length 1 (cI C))] [] ((.tup [.v (.slice none 0 0),.v (.int .i64 (icE n d q (cT P) P.length (cI C) C.length))])) [] :=
 givesM_parts 17 (by kernel_rfl) Try.func15 (by kernel_rfl) (by kernel_rfl) (by kernel_rfl) (fun v eb ec=>goes_less (by kernel_rfl) (by kernel_rfl) (by kernel_rfl) (by kernel_rfl) (oLb_2 n d q y P z C hE hC v eb ec []))
noncomputable def oLgK1:Code:=bodyC Try.f15
theorem oLg_2 (n:Nat) (d q:Int) (y:Value) (P:List (Int×Int×Int)) (z:Value) (C:List Int) (hE:icE ((n:Nat):Int) d q (cT P) P.length (cI C) C.length=0) (hC:C.length≤1000) (v:BaseW) (eb:Nat→Option Nat) (ec:Nat→Nat) (hs:List Nat):Goes Try.prog 17 oLgK1 (⟨[(0,(.agg [.v (.int .i64 ((n:Nat):Int)),.v (.int .i64 d),.v (.int .i64 q),.xl y P.length 3 (cT P)])),(qI2_5 C z)],[],0,[]⟩) (BaseW.H (bw v 0 eb ec) hs) (OutM Try.prog Try.f15 17 ((.tup [.sl 0 0 n n,.v (.int .i64 0)])) [(.cells (cI (tabL (litF (cT P) q (cI C) C.length) n)) 3)] (bw v 0 eb ec)):=by
 have hcl_C:=cI_len C
 obtain ⟨hR,hch⟩:=icE_zero hE
 obtain ⟨hm,⟨ha1,ha2,ha3⟩,hp⟩:=roE_zero hR
 have hX:(flt (stM ((n:Nat):Int) d q y P (stC (cI C) C.length)) P.length)=C:=(flt_M hm).trans (flt_stC hch)
 rcases Bool.eq_false_or_eq_true (eqI (icE (((n:Nat):Int)) d q (cT P) P.length (cI C) C.length) 0) with hqoLg3_1 | hqoLg3_1
 ·skip
  have ghqoLg3_1:=eqI_true hqoLg3_1
  exact goes_leafA isR_e (goes_cutR Try.checked.mixed (known_o1) 200 (T':=⟨[(4,(.sl 0 0 (n) (n))),qI2_3],[],1,[(0,(.cells (cI (tabL (litF (cT P) q (cI (flt (stM ((n:Nat):Int) d q y P (stC (cI C) C.length)) P.length)) (flt (stM ((n:Nat):Int) d q y P (stC (cI C) C.length)) P.length).length) n)) 3))]⟩) (e:=.ret) (m:=2) (ps:=[IsT P.length (cT P),IsC 1 C.length (cI C),C.length≤1000,(!eqI (icE (((n:Nat):Int)) d q (cT P) P.length (cI C) C.length) 0)=false,FreeL (cT P),FreeL (cI C),IsT P.length (cT P),IsC 1 C.length (cI C),P.length≤24,C.length≤1000,chB (cI C) C.length ((P.length:Nat):Int)=true,FreeL (cT P),FreeL (cT P),IsRd (rdT [AV.v (Value.int IntKind.i64 ((n:Nat):Int)),AV.v (Value.int IntKind.i64 d),AV.v (Value.int IntKind.i64 q),AV.xl y P.length 3 (cT P)] (stC (cI C) C.length)),roE (((n:Nat):Int)) d q (cT P) P.length=0,(flt (stM ((n:Nat):Int) d q y P (stC (cI C) C.length)) P.length).length=0∨0 < (flt (stM ((n:Nat):Int) d q y P (stC (cI C) C.length)) P.length).length]) [.go,.go,.go,.go,.go,.go,.go,.go,.b false,.go,.go,.go,.go] [1] [(.sl 1 0 (n) (n)),(.v (.int .i64 (.ofNat 0)))] [(.cells (cI (tabL (litF (cT P) q (cI (flt (stM ((n:Nat):Int) d q y P (stC (cI C) C.length)) P.length)) (flt (stM ((n:Nat):Int) d q y P (stC (cI C) C.length)) P.length).length) n)) 3)] (by kernel_rfl) (by kernel_rfl) ⟨⟨P,rfl,rfl⟩,⟨rfl,_,rfl,rfl⟩,hC,(by rw [hqoLg3_1]; rfl),(freeL_plain (cT_plain P)),(freeL_plain (cI_plain _)),⟨P,rfl,rfl⟩,⟨rfl,_,rfl,rfl⟩,hm,hC,(chB_true.2 hch),(freeL_plain (cT_plain P)),(freeL_plain (cT_plain P)),⟨_,_,_,_,P,_,rfl⟩,hR,(Nat.eq_zero_or_pos _),trivial⟩ rfl rfl (by decide) rfl ⟨nr_sl rfl,nr_v _,trivial⟩ ⟨⟨by show 0 < 1; decide,nrb_cells (nrl_plain (cI_plain _))⟩,trivial⟩) (en_eqM (r:=(.tup [(.sl 0 0 (n) (n)),(.v (.int .i64 (.ofNat 0)))])) (ys:=[(.cells (cI (tabL (litF (cT P) q (cI (flt (stM ((n:Nat):Int) d q y P (stC (cI C) C.length)) P.length)) (flt (stM ((n:Nat):Int) d q y P (stC (cI C) C.length)) P.length).length) n)) 3)]) (by rfl) (by rw [hX]) (en_retM (by kernel_rfl) (by kernel_rfl) rfl (.inr rfl)))
 ·skip
  have ghqoLg3_1:=eqI_false hqoLg3_1
  exact absurd hE (eqI_false hqoLg3_1)
theorem oLg (n:Nat) (d q:Int) (y:Value) (P:List (Int×Int×Int)) (z:Value) (C:List Int) (hE:icE ((n:Nat):Int) d q (cT P) P.length (cI C) C.length=0) (hC:C.length≤1000):GivesM Try.prog 15 [(.agg [.v (.int .i64 ((n:Nat):Int)),.v (.int .i64 d),.v (.int .i64 q),.xl y P.length 3 (cT P)]),(.xl z C.length 1 (cI C))] [] ((.tup [.sl 0 0 n n,.v (.int .i64 0)])) [(.cells (cI (tabL (litF (cT P) q (cI C) C.length) n)) 3)] :=
 givesM_parts 17 (by kernel_rfl) Try.func15 (by kernel_rfl) (by kernel_rfl) (by kernel_rfl) (fun v eb ec=>goes_less (by kernel_rfl) (by kernel_rfl) (by kernel_rfl) (by kernel_rfl) (oLg_2 n d q y P z C hE hC v eb ec []))
noncomputable def rLbK1:Code:=bodyC Try.f16
theorem rLb_2 (n d q:Int) (y:Value) (P:List (Int×Int×Int)) (z:Value) (C:List Int) (hE:¬ icE n d q (cT P) P.length (cI C) C.length=0) (hC:C.length≤1000) (v:BaseW) (eb:Nat→Option Nat) (ec:Nat→Nat) (hs:List Nat):Goes Try.prog 16 rLbK1 (⟨[(0,(.agg [.v (.int .i64 n),.v (.int .i64 d),.v (.int .i64 q),.xl y P.length 3 (cT P)])),(qI2_5 C z)],[],0,[]⟩) (BaseW.H (bw v 0 eb ec) hs) (OutM Try.prog Try.f16 16 ((.tup [.v (.slice none 0 0),.v (.int .i64 (icE n d q (cT P) P.length (cI C) C.length))])) [] (bw v 0 eb ec)):=by
 have hcl_C:=cI_len C
 rcases Bool.eq_false_or_eq_true (eqI (icE n d q (cT P) P.length (cI C) C.length) 0) with hqrLb3_1 | hqrLb3_1
 ·skip
  have ghqrLb3_1:=eqI_true hqrLb3_1
  exact absurd (eqI_true hqrLb3_1) hE
 ·skip
  have ghqrLb3_1:=eqI_false hqrLb3_1
  exact goes_leafA isR_e (goes_cut Try.checked.mixed (known_o2) 200 (T':=⟨[(4,(.v (Value.slice none 0 0))),(5,(.v (.int .i64 (icE n d q (cT P) P.length (cI C) C.length))))],[],0,[]⟩) (e:=.ret) (m:=1) (ps:=[IsT P.length (cT P),IsC 1 C.length (cI C),C.length≤1000,(!eqI (icE n d q (cT P) P.length (cI C) C.length) 0)=true,IsT P.length (cT P),IsC 1 C.length (cI C),C.length≤1000]) [.go,.go,.go,.go,.go,.go,.b true,.go,.go,.go,.go] (by kernel_rfl) (by kernel_rfl) ⟨⟨P,rfl,rfl⟩,⟨rfl,_,rfl,rfl⟩,hC,(by rw [hqrLb3_1]; rfl),⟨P,rfl,rfl⟩,⟨rfl,_,rfl,rfl⟩,hC,trivial⟩ rfl (by show 0≤1; decide) ⟨⟨nb_v _,nb_v _,trivial⟩,trivial,rfl⟩ (by show 0≤0; decide)) (en_eqM (r:=(.tup [(.v (Value.slice none 0 0)),(.v (.int .i64 (icE n d q (cT P) P.length (cI C) C.length)))])) (ys:=[]) (by rfl) (by rfl) (en_retM (by kernel_rfl) (by kernel_rfl) rfl (.inr rfl)))
theorem rLb (n d q:Int) (y:Value) (P:List (Int×Int×Int)) (z:Value) (C:List Int) (hE:¬ icE n d q (cT P) P.length (cI C) C.length=0) (hC:C.length≤1000):GivesM Try.prog 16 [(.agg [.v (.int .i64 n),.v (.int .i64 d),.v (.int .i64 q),.xl y P.length 3 (cT P)]),(.xl z C.length 1 (cI C))] [] ((.tup [.v (.slice none 0 0),.v (.int .i64 (icE n d q (cT P) P.length (cI C) C.length))])) [] :=
 givesM_parts 16 (by kernel_rfl) Try.func16 (by kernel_rfl) (by kernel_rfl) (by kernel_rfl) (fun v eb ec=>goes_less (by kernel_rfl) (by kernel_rfl) (by kernel_rfl) (by kernel_rfl) (rLb_2 n d q y P z C hE hC v eb ec []))
noncomputable def rLgK1:Code:=bodyC Try.f16
theorem rLg_2 (n:Nat) (d q:Int) (y:Value) (P:List (Int×Int×Int)) (z:Value) (C:List Int) (hE:icE ((n:Nat):Int) d q (cT P) P.length (cI C) C.length=0) (hC:C.length≤1000) (v:BaseW) (eb:Nat→Option Nat) (ec:Nat→Nat) (hs:List Nat):Goes Try.prog 16 rLgK1 (⟨[(0,(.agg [.v (.int .i64 ((n:Nat):Int)),.v (.int .i64 d),.v (.int .i64 q),.xl y P.length 3 (cT P)])),(qI2_5 C z)],[],0,[]⟩) (BaseW.H (bw v 0 eb ec) hs) (OutM Try.prog Try.f16 16 ((.tup [.sl 0 0 n n,.v (.int .i64 0)])) [(.cells (cI (tabL (litF (cT P) q (cI C) C.length) n)) 3)] (bw v 0 eb ec)):=by
 have hcl_C:=cI_len C
 obtain ⟨hR,hch⟩:=icE_zero hE
 obtain ⟨hm,⟨ha1,ha2,ha3⟩,hp⟩:=roE_zero hR
 have hX:(flt (stM ((n:Nat):Int) d q y P (stC (cI C) C.length)) P.length)=C:=(flt_M hm).trans (flt_stC hch)
 rcases Bool.eq_false_or_eq_true (eqI (icE (((n:Nat):Int)) d q (cT P) P.length (cI C) C.length) 0) with hqrLg3_1 | hqrLg3_1
 ·skip
  have ghqrLg3_1:=eqI_true hqrLg3_1
  exact goes_leafA isR_e (goes_cutR Try.checked.mixed (known_o2) 200 (T':=⟨[(4,(.sl 0 0 (n) (n))),qI2_3],[],1,[(0,(.cells (cI (tabL (litF (cT P) q (cI C) C.length) n)) 3))]⟩) (e:=.ret) (m:=2) (ps:=[IsT P.length (cT P),IsC 1 C.length (cI C),C.length≤1000,(!eqI (icE (((n:Nat):Int)) d q (cT P) P.length (cI C) C.length) 0)=false,FreeL (cT P),FreeL (cI C),IsT P.length (cT P),IsC 1 C.length (cI C),icE (((n:Nat):Int)) d q (cT P) P.length (cI C) C.length=0,C.length≤1000]) [.go,.go,.go,.go,.go,.go,.b false,.go,.go,.go,.go] [1] [(.sl 1 0 (n) (n)),(.v (.int .i64 (.ofNat 0)))] [(.cells (cI (tabL (litF (cT P) q (cI C) C.length) n)) 3)] (by kernel_rfl) (by kernel_rfl) ⟨⟨P,rfl,rfl⟩,⟨rfl,_,rfl,rfl⟩,hC,(by rw [hqrLg3_1]; rfl),(freeL_plain (cT_plain P)),(freeL_plain (cI_plain _)),⟨P,rfl,rfl⟩,⟨rfl,_,rfl,rfl⟩,hE,hC,trivial⟩ rfl rfl (by decide) rfl ⟨nr_sl rfl,nr_v _,trivial⟩ ⟨⟨by show 0 < 1; decide,nrb_cells (nrl_plain (cI_plain _))⟩,trivial⟩) (en_eqM (r:=(.tup [(.sl 0 0 (n) (n)),(.v (.int .i64 (.ofNat 0)))])) (ys:=[(.cells (cI (tabL (litF (cT P) q (cI C) C.length) n)) 3)]) (by rfl) (by rfl) (en_retM (by kernel_rfl) (by kernel_rfl) rfl (.inr rfl)))
 ·skip
  have ghqrLg3_1:=eqI_false hqrLg3_1
  exact absurd hE (eqI_false hqrLg3_1)
theorem rLg (n:Nat) (d q:Int) (y:Value) (P:List (Int×Int×Int)) (z:Value) (C:List Int) (hE:icE ((n:Nat):Int) d q (cT P) P.length (cI C) C.length=0) (hC:C.length≤1000):GivesM Try.prog 16 [(.agg [.v (.int .i64 ((n:Nat):Int)),.v (.int .i64 d),.v (.int .i64 q),.xl y P.length 3 (cT P)]),(.xl z C.length 1 (cI C))] [] ((.tup [.sl 0 0 n n,.v (.int .i64 0)])) [(.cells (cI (tabL (litF (cT P) q (cI C) C.length) n)) 3)] :=
 givesM_parts 16 (by kernel_rfl) Try.func16 (by kernel_rfl) (by kernel_rfl) (by kernel_rfl) (fun v eb ec=>goes_less (by kernel_rfl) (by kernel_rfl) (by kernel_rfl) (by kernel_rfl) (rLg_2 n d q y P z C hE hC v eb ec []))
end
end Go.Proofs.Ytnphldmnakbknaa
