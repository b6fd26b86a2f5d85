import Derived.Test.YtnphldmnakbknaaI3
import Derived.Test.YtnphldmnakbknaaI2
set_option maxHeartbeats 4000000
set_option linter.all false
/- ints, great. -/
namespace Go.Proofs.Ytnphldmnakbknaa
open Go Ev
noncomputable section
section
variable (C : List Int) (y z : Value)
@[reducible] def qJ3_5:Nat×Ev.AV:=(0,(.xl (z) (C.length) 1 (cI C)))
@[reducible] def qJ3_4:Nat×Ev.AV:=(1,(.xl (y) (C.length) 1 (cI C)))
@[reducible] def qJ3_1:Ev.Lit:=⟨[(qJ3_5 C z),(qJ3_4 C y),(5,(.v (.int .i64 (.ofNat 0))))],[],0,[]⟩
@[reducible] def qJ3_2:Ev.Lit:=⟨[(qJ3_5 C z),(qJ3_4 C y)],[],0,[]⟩
@[reducible] def qJ3_3:=(eqI ((C.length:Nat):Int) ((C.length:Nat):Int))
end
noncomputable def iiK1:Code:=bodyC Try.f21
noncomputable def iiK3:Code:=tlC iiK1
noncomputable def iiK6:Code:=tlC iiK3
noncomputable def iiK9:Code:=tlC iiK6
noncomputable def iiK10:Code:=(hdC iiK6)
noncomputable def iiK12:Code:=tlC iiK10
noncomputable def iiK16:Code:=loopC iiK12
theorem ii_19 (z y:Value) (C:List Int) (hC:C.length≤1000) (hqii7_1:(qJ3_3 C)=true) (h0b:True) (hqii18_1:(ltI ((C.length:Nat):Int) ((C.length:Nat):Int))=false) (w:World) (hs:List Nat):Goes Try.prog 26 iiK9 (⟨[],[],0,[]⟩) (BaseW.H w hs) (OutH Try.prog Try.f21 26 (.bool true) w):=by
 have hcl_C:=cI_len C
 have ghqii7_1:=eqI_true hqii7_1
 have ghqii18_1:=ltI_false hqii18_1
 exact goes_leafA isR_e (goes_told Try.checked.mixed (known_none) 200 (T':=⟨[(4,(.v (.bool .true)))],[],0,[]⟩) (e:=.ret) (ps:=[]) [.go] (by kernel_rfl) (by kernel_rfl) trivial rfl) (Hd.en_eq (r:=(.bool .true)) (by rfl) (Hd.en_ret (v:=(.v (.bool .true))) (by kernel_rfl) rfl))
theorem ii_17 (z y:Value) (C:List Int) (hC:C.length≤1000) (hqii7_1:(qJ3_3 C)=true) (i:Nat) (hi1:i≤C.length) (hi2:True) (w:World) (hs:List Nat):Goes Try.prog 26 iiK16 (⟨[(qJ3_5 C z),(qJ3_4 C y),(5,(.v (.int .i64 ((i:Nat):Int))))],[],0,[]⟩) (BaseW.H w hs) (Hd.StepC Try.prog 26 0 (fun i:{i:Nat // i≤C.length∧True}=>⟨[(qJ3_5 C z),(qJ3_4 C y),(5,(.v (.int .i64 ((i.1:Nat):Int))))],[],0,[]⟩) (fun i:{i:Nat // i≤C.length∧True}=>C.length - i.1) iiK9 w (OutH Try.prog Try.f21 26 (.bool true) w) (⟨i,hi1,hi2⟩:{i:Nat // i≤C.length∧True})):=by
 have hcl_C:=cI_len C
 have ghqii7_1:=eqI_true hqii7_1
 rcases Bool.eq_false_or_eq_true (ltI ((i:Nat):Int) ((C.length:Nat):Int)) with hqii18_1 | hqii18_1
 ·skip
  have ghqii18_1:=ltI_true hqii18_1
  rcases Bool.eq_false_or_eq_true (eqI (intAt (cI C) (i * 1)) (intAt (cI C) (i * 1))) with hqii18_2 | hqii18_2
  ·skip
   have ghqii18_2:=eqI_true hqii18_2
   exact goes_leafA isN_e (goes_told Try.checked.mixed (known_none) 200 (T':=⟨[(qJ3_5 C z),(qJ3_4 C y),(5,(.v (.int .i64 (((i + 1):Nat):Int))))],[],0,[]⟩) (e:=.normal) (ps:=[ltI ((i:Nat):Int) ((C.length:Nat):Int)=true,i < C.length,loadL Try.prog (cI C) (i * 1) 3=some (AV.v (Value.int IntKind.i64 (intAt (cI C) (i * 1)))),i < C.length,loadL Try.prog (cI C) (i * 1) 3=some (AV.v (Value.int IntKind.i64 (intAt (cI C) (i * 1)))),(!eqI (intAt (cI C) (i * 1)) (intAt (cI C) (i * 1)))=false,inR IntKind.i64 (((i:Nat):Int) + 1)]) [.go,.go,.go,.go,.b true,.go,.go,.sym,.sym,.go,.go,.sym,.sym,.go,.b false,.go,.go,.go] (by kernel_rfl) (by kernel_rfl) ⟨hqii18_1,(by omega),(by rw [Nat.mul_one]; exact cI_load (by omega) 3 (Try.underlying3) rfl),(by omega),(by rw [Nat.mul_one]; exact cI_load (by omega) 3 (Try.underlying3) rfl),(by rw [hqii18_2]; rfl),(by show -9223372036854775808≤_∧_≤9223372036854775807; constructor <;> omega),trivial⟩ rfl) (Hd.en_on (⟨i + 1,by omega,trivial⟩) (by show C.length - (i + 1) < C.length - i; omega) rfl)
  ·skip
   have ghqii18_2:=eqI_false hqii18_2
   exact absurd (eqI_self _) (by rw [hqii18_2]; decide)
 ·skip
  have ghqii18_1:=ltI_false hqii18_1
  obtain rfl:i=C.length:=by omega
  exact goes_leafA isX_e (goes_told Try.checked.mixed (known_none) 200 (T':=⟨[],[],0,[]⟩) (e:=.exit 0) (ps:=[ltI ((C.length:Nat):Int) ((C.length:Nat):Int)=false]) [.go,.go,.go,.go,.b false] (by kernel_rfl) (by kernel_rfl) ⟨hqii18_1,trivial⟩ rfl) (Hd.en_sx (ii_19 z y C hC hqii7_1 hi2  hqii18_1 w hs))
theorem ii_15 (z y:Value) (C:List Int) (hC:C.length≤1000) (hqii7_1:(qJ3_3 C)=true) (w:World) (hs:List Nat):Goes Try.prog 26 iiK12 ((qJ3_1 C y z)) (BaseW.H w hs) (Hd.AfterN Try.prog 26 iiK9 w (OutH Try.prog Try.f21 26 (.bool true) w)):=by
 have hcl_C:=cI_len C
 have ghqii7_1:=eqI_true hqii7_1
 exact Hd.goes_loopA (id:=0) (by kernel_rfl) (by kernel_rfl) (fun i:{i:Nat // i≤C.length∧True}=>⟨[(qJ3_5 C z),(qJ3_4 C y),(5,(.v (.int .i64 ((i.1:Nat):Int))))],[],0,[]⟩) (fun i:{i:Nat // i≤C.length∧True}=>C.length - i.1) (fun ix_ hs=>ii_17 z y C hC hqii7_1 ix_.1 ix_.2.1 ix_.2.2 w hs) ⟨0,Nat.zero_le _,trivial⟩ hs
theorem ii_14 (z y:Value) (C:List Int) (hC:C.length≤1000) (hqii7_1:(qJ3_3 C)=true) (w:World) (hs:List Nat):Goes Try.prog 26 iiK12 ((qJ3_1 C y z)) (BaseW.H w hs) (Hd.AfterN Try.prog 26 iiK9 w (OutH Try.prog Try.f21 26 (.bool true) w)):=by
 exact ii_15 z y C hC hqii7_1 w hs
theorem ii_11 (z y:Value) (C:List Int) (hC:C.length≤1000) (hqii7_1:(qJ3_3 C)=true) (w:World) (hs:List Nat):Goes Try.prog 26 iiK10 ((qJ3_2 C y z)) (BaseW.H w hs) (Hd.AfterN Try.prog 26 iiK9 w (OutH Try.prog Try.f21 26 (.bool true) w)):=by
 have hcl_C:=cI_len C
 have ghqii7_1:=eqI_true hqii7_1
 refine Hd.goes_seqA (by kernel_rfl) ?_
 exact goes_leafA isN_e (goes_told Try.checked.mixed (known_none) 200 (T':=(qJ3_1 C y z)) (e:=.normal) (ps:=[]) [.go] (by kernel_rfl) (by kernel_rfl) trivial rfl) (Hd.en_n (ii_14 z y C hC hqii7_1 w hs))
theorem ii_8 (z y:Value) (C:List Int) (hC:C.length≤1000) (hqii7_1:(qJ3_3 C)=true) (w:World) (hs:List Nat):Goes Try.prog 26 iiK6 ((qJ3_2 C y z)) (BaseW.H w hs) (OutH Try.prog Try.f21 26 (.bool true) w):=by
 exact Hd.goes_seqA (by kernel_rfl) (ii_11 z y C hC hqii7_1 w hs)
theorem ii_5 (z y:Value) (C:List Int) (hC:C.length≤1000) (w:World) (hs:List Nat):Goes Try.prog 26 iiK3 ((qJ3_2 C y z)) (BaseW.H w hs) (OutH Try.prog Try.f21 26 (.bool true) w):=by
 have hcl_C:=cI_len C
 refine Hd.goes_seqA (by kernel_rfl) ?_
 rcases Bool.eq_false_or_eq_true (eqI ((C.length:Nat):Int) ((C.length:Nat):Int)) with hqii7_1 | hqii7_1
 ·skip
  have ghqii7_1:=eqI_true hqii7_1
  exact goes_leafA isN_e (goes_told Try.checked.mixed (known_none) 200 (T':=(qJ3_2 C y z)) (e:=.normal) (ps:=[(!eqI ((C.length:Nat):Int) ((C.length:Nat):Int))=false]) [.go,.go,.go,.go,.go,.b false] (by kernel_rfl) (by kernel_rfl) ⟨(by rw [hqii7_1]; rfl),trivial⟩ rfl) (Hd.en_n (ii_8 z y C hC hqii7_1 w hs))
 ·skip
  have ghqii7_1:=eqI_false hqii7_1
  exact absurd (eqI_self _) (by rw [hqii7_1]; decide)
theorem ii_2 (z y:Value) (C:List Int) (hC:C.length≤1000) (w:World) (hs:List Nat):Goes Try.prog 26 iiK1 (⟨[(0,(.xl z C.length 1 (cI C))),(1,(.xl y C.length 1 (cI C)))],[],0,[]⟩) (BaseW.H w hs) (OutH Try.prog Try.f21 26 (.bool true) w):=by
 have hcl_C:=cI_len C
 refine Hd.goes_seqA (by kernel_rfl) ?_
 exact goes_leafA isN_e (goes_told Try.checked.mixed (known_none) 200 (T':=(qJ3_2 C y z)) (e:=.normal) (ps:=[]) [.go] (by kernel_rfl) (by kernel_rfl) trivial rfl) (Hd.en_n (ii_5 z y C hC w hs))
theorem ints_g (z y:Value) (C:List Int) (hC:C.length≤1000):GivesA Try.prog 21 [(.xl z C.length 1 (cI C)),(.xl y C.length 1 (cI C))] (.bool true) :=
 givesA_partsH 26 Try.func21 (by kernel_rfl) (by kernel_rfl) (by kernel_rfl) (fun w=>goes_less (by kernel_rfl) (by kernel_rfl) (by kernel_rfl) (by kernel_rfl) (ii_2 z y C hC w []))
noncomputable def grK1:Code:=bodyC Try.f13
theorem gr_2 (n d q:Int) (y:Value) (P:List (Int×Int×Int)) (w:World) (hs:List Nat):Goes Try.prog 7 grK1 (⟨[(0,(.agg [.v (.int .i64 n),.v (.int .i64 d),.v (.int .i64 q),.xl y P.length 3 (cT P)]))],[],0,[]⟩) (BaseW.H w hs) (OutH Try.prog Try.f13 7 (.bool (ltI 30 P.length)) w):=by
 exact goes_leafA isR_e (goes_told Try.checked.mixed (known_none) 200 (T':=⟨[(2,(.v (.bool (ltI 30 ((P.length:Nat):Int)))))],[],1,[]⟩) (e:=.ret) (ps:=[]) [.go,.go,.go,.go,.go,.go,.go] (by kernel_rfl) (by kernel_rfl) trivial rfl) (Hd.en_eq (r:=(.bool (ltI 30 ((P.length:Nat):Int)))) (by rfl) (Hd.en_ret (v:=(.v (.bool (ltI 30 ((P.length:Nat):Int))))) (by kernel_rfl) rfl))
theorem great_g (n d q:Int) (y:Value) (P:List (Int×Int×Int)):GivesA Try.prog 13 [(.agg [.v (.int .i64 n),.v (.int .i64 d),.v (.int .i64 q),.xl y P.length 3 (cT P)])] (.bool (ltI 30 P.length)) :=
 givesA_partsH 7 Try.func13 (by kernel_rfl) (by kernel_rfl) (by kernel_rfl) (fun w=>goes_less (by kernel_rfl) (by kernel_rfl) (by kernel_rfl) (by kernel_rfl) (gr_2 n d q y P w []))
def iiS:List Vw→Option (Res1×List Prop):=fun vs =>
 match vs with
 | [.lst n k c,.lst m j e]=>some (.val (.v (.bool true)),[IsC k n c,n≤1000,m=n∧j=k∧e=c])
 | _=>none
def iiO:OrcH:=avOrc 21 [1,1] iiS
theorem known_ii:Known Try.prog (clsO iiO):=known_av (fun vs r ps h hp=>by
 unfold iiS at h
 split at h
 ·cases h
  obtain ⟨⟨rfl,L,rfl,rfl⟩,hn,⟨rfl,rfl,rfl⟩,-⟩:=hp
  refine ⟨⟨⟨_,cI_plain L⟩,⟨_,cI_plain L⟩,trivial⟩,fun ys hy=>?_⟩
  obtain ⟨y1,y2,rfl⟩:=len2 hy
  exact ⟨_,rfl,ints_g y1 y2 L hn⟩
 ·cases h)
def gtS:List AV→Option (Res1×List Prop):=fun args =>
 match args with
 | [a]=>match roadV a with
  | some (n,d,q,y,m,c)=>some (.val (.v (.bool (ltI 30 m))),[IsT m c])
  | none=>none
 | _=>none
def gtO:OrcH:=extOrc 13 gtS
theorem known_gt:Known Try.prog (clsO gtO):=known_ext (fun args r ps h hp=>by
 unfold gtS at h
 split at h
 ·split at h
  ·rename_i n d q y m c e
   cases h
   obtain ⟨⟨P,rfl,rfl⟩,-⟩:=hp
   rw [roadV_eq e]
   exact ⟨extL_cons (ext_road n d q y P) extL_nil,_,rfl,great_g n d q y P⟩
  ·cases h
 ·cases h)
def wkS:List Value→Option AV:=fun xs=>match xs with | []=>some (.v (.bool true)) | _=>none
def wkO:OrcH:=plainOrc 14 wkS
def joLbS:List AV→List AB→Option ((AV×List AB)×List Prop):=fun args xs =>
 match args with
 | [a,.xl z k j e]=>match roadV a,xs with
  | some (n,d,q,y,m,c),[]=>some ((.tup [.v (.slice none 0 0),.v (.int .i64 (icE n d q c m e k))],[]),[IsT m c,IsC j k e,¬ icE n d q c m e k=0,k≤1000])
  | _,_=>none
 | _=>none
def joLbO:OrcH:=mOrc 15 joLbS
theorem known_joLb:Known Try.prog (clsO joLbO):=known_m (fun args xs r ys ps h hp=>by
 unfold joLbS at h
 split at h
 ·split at h
  ·rename_i n d q y m c e2
   cases h
   obtain ⟨⟨P,rfl,rfl⟩,⟨rfl,C,rfl,rfl⟩,hE,hk,-⟩:=hp
   rw [roadV_eq e2]
   exact ⟨fun x hx=>absurd hx List.not_mem_nil,fun x hx=>absurd hx List.not_mem_nil,oLb n d q y P _ C hE hk⟩
  ·cases h
 ·cases h)
def joCbS:List AV→List AB→Option ((AV×List AB)×List Prop):=fun args xs =>
 match args with
 | [a,.xl z k j e]=>match roadV a,xs with
  | some (n,d,q,y,m,c),[]=>some ((.tup [.v (.int .i64 0),.v (.int .i64 (icE n d q c m e k))],[]),[IsT m c,IsC j k e,¬ icE n d q c m e k=0,k≤1000])
  | _,_=>none
 | _=>none
def joCbO:OrcH:=mOrc 17 joCbS
theorem known_joCb:Known Try.prog (clsO joCbO):=known_m (fun args xs r ys ps h hp=>by
 unfold joCbS at h
 split at h
 ·split at h
  ·rename_i n d q y m c e2
   cases h
   obtain ⟨⟨P,rfl,rfl⟩,⟨rfl,C,rfl,rfl⟩,hE,hk,-⟩:=hp
   rw [roadV_eq e2]
   exact ⟨fun x hx=>absurd hx List.not_mem_nil,fun x hx=>absurd hx List.not_mem_nil,oCb n d q y P _ C hE hk⟩
  ·cases h
 ·cases h)
def jrLbS:List AV→List AB→Option ((AV×List AB)×List Prop):=fun args xs =>
 match args with
 | [a,.xl z k j e]=>match roadV a,xs with
  | some (n,d,q,y,m,c),[]=>some ((.tup [.v (.slice none 0 0),.v (.int .i64 (icE n d q c m e k))],[]),[IsT m c,IsC j k e,¬ icE n d q c m e k=0,k≤1000])
  | _,_=>none
 | _=>none
def jrLbO:OrcH:=mOrc 16 jrLbS
theorem known_jrLb:Known Try.prog (clsO jrLbO):=known_m (fun args xs r ys ps h hp=>by
 unfold jrLbS at h
 split at h
 ·split at h
  ·rename_i n d q y m c e2
   cases h
   obtain ⟨⟨P,rfl,rfl⟩,⟨rfl,C,rfl,rfl⟩,hE,hk,-⟩:=hp
   rw [roadV_eq e2]
   exact ⟨fun x hx=>absurd hx List.not_mem_nil,fun x hx=>absurd hx List.not_mem_nil,rLb n d q y P _ C hE hk⟩
  ·cases h
 ·cases h)
def jrCbS:List AV→List AB→Option ((AV×List AB)×List Prop):=fun args xs =>
 match args with
 | [a,.xl z k j e]=>match roadV a,xs with
  | some (n,d,q,y,m,c),[]=>some ((.tup [.v (.int .i64 0),.v (.int .i64 (icE n d q c m e k))],[]),[IsT m c,IsC j k e,¬ icE n d q c m e k=0,k≤1000])
  | _,_=>none
 | _=>none
def jrCbO:OrcH:=mOrc 18 jrCbS
theorem known_jrCb:Known Try.prog (clsO jrCbO):=known_m (fun args xs r ys ps h hp=>by
 unfold jrCbS at h
 split at h
 ·split at h
  ·rename_i n d q y m c e2
   cases h
   obtain ⟨⟨P,rfl,rfl⟩,⟨rfl,C,rfl,rfl⟩,hE,hk,-⟩:=hp
   rw [roadV_eq e2]
   exact ⟨fun x hx=>absurd hx List.not_mem_nil,fun x hx=>absurd hx List.not_mem_nil,rCb n d q y P _ C hE hk⟩
  ·cases h
 ·cases h)
def jlb:OrcH:=orO (orO (orO gtO iiO) (orO roO rrO)) (orO (orO joLbO jrLbO) (orO (orO joCbO jrCbO) wkO))
theorem known_jlb (hw:Known Try.prog (clsO wkO)):Known Try.prog (clsO jlb):=known_or (known_or (known_or known_gt known_ii) (known_or known_ro known_rr)) (known_or (known_or known_joLb known_jrLb) (known_or (known_or known_joCb known_jrCb) hw))
def joLgS:List AV→List AB→Option ((AV×List AB)×List Prop):=fun args xs =>
 match args with
 | [a,.xl z k j e]=>match roadV a,xs with
  | some (n,d,q,y,m,c),[]=>some ((.tup [.sl 0 0 n.toNat n.toNat,.v (.int .i64 0)],[.cells (cI (tabL (litF c q e k) n.toNat)) 3]),[IsT m c,IsC j k e,icE n d q c m e k=0,k≤1000])
  | _,_=>none
 | _=>none
def joLgO:OrcH:=mOrc 15 joLgS
theorem known_joLg:Known Try.prog (clsO joLgO):=known_m (fun args xs r ys ps h hp=>by
 unfold joLgS at h
 split at h
 ·split at h
  ·rename_i n d q y m c e2
   cases h
   obtain ⟨⟨P,rfl,rfl⟩,⟨rfl,C,rfl,rfl⟩,hE,hk,-⟩:=hp
   obtain ⟨n,rfl⟩:∃ k:Nat,n=((k:Nat):Int):=⟨n.toNat,by have h9:=(roE_zero (icE_zero hE).1).2.1.1; omega⟩
   rw [roadV_eq e2]
   exact ⟨fun x hx=>absurd hx List.not_mem_nil,fun x hx=>(by rcases List.mem_cons.1 hx with rfl | hx; exact freeB_cells (freeL_plain (cI_plain _)); exact absurd hx List.not_mem_nil),oLg n d q y P _ C hE hk⟩
  ·cases h
 ·cases h)
def joCgS:List AV→List AB→Option ((AV×List AB)×List Prop):=fun args xs =>
 match args with
 | [a,.xl z k j e]=>match roadV a,xs with
  | some (n,d,q,y,m,c),[]=>some ((.tup [.v (.int .i64 (if hoB c q d e k n.toNat=true then suC c e k else 0)),.v (.int .i64 (if hoB c q d e k n.toNat=true then 0 else 18))],[]),[IsT m c,IsC j k e,icE n d q c m e k=0,k≤1000])
  | _,_=>none
 | _=>none
def joCgO:OrcH:=mOrc 17 joCgS
theorem known_joCg:Known Try.prog (clsO joCgO):=known_m (fun args xs r ys ps h hp=>by
 unfold joCgS at h
 split at h
 ·split at h
  ·rename_i n d q y m c e2
   cases h
   obtain ⟨⟨P,rfl,rfl⟩,⟨rfl,C,rfl,rfl⟩,hE,hk,-⟩:=hp
   obtain ⟨n,rfl⟩:∃ k:Nat,n=((k:Nat):Int):=⟨n.toNat,by have h9:=(roE_zero (icE_zero hE).1).2.1.1; omega⟩
   rw [roadV_eq e2]
   exact ⟨fun x hx=>absurd hx List.not_mem_nil,fun x hx=>absurd hx List.not_mem_nil,oCg n d q y P _ C hE hk⟩
  ·cases h
 ·cases h)
def jrLgS:List AV→List AB→Option ((AV×List AB)×List Prop):=fun args xs =>
 match args with
 | [a,.xl z k j e]=>match roadV a,xs with
  | some (n,d,q,y,m,c),[]=>some ((.tup [.sl 0 0 n.toNat n.toNat,.v (.int .i64 0)],[.cells (cI (tabL (litF c q e k) n.toNat)) 3]),[IsT m c,IsC j k e,icE n d q c m e k=0,k≤1000])
  | _,_=>none
 | _=>none
def jrLgO:OrcH:=mOrc 16 jrLgS
theorem known_jrLg:Known Try.prog (clsO jrLgO):=known_m (fun args xs r ys ps h hp=>by
 unfold jrLgS at h
 split at h
 ·split at h
  ·rename_i n d q y m c e2
   cases h
   obtain ⟨⟨P,rfl,rfl⟩,⟨rfl,C,rfl,rfl⟩,hE,hk,-⟩:=hp
   obtain ⟨n,rfl⟩:∃ k:Nat,n=((k:Nat):Int):=⟨n.toNat,by have h9:=(roE_zero (icE_zero hE).1).2.1.1; omega⟩
   rw [roadV_eq e2]
   exact ⟨fun x hx=>absurd hx List.not_mem_nil,fun x hx=>(by rcases List.mem_cons.1 hx with rfl | hx; exact freeB_cells (freeL_plain (cI_plain _)); exact absurd hx List.not_mem_nil),rLg n d q y P _ C hE hk⟩
  ·cases h
 ·cases h)
def jrCgS:List AV→List AB→Option ((AV×List AB)×List Prop):=fun args xs =>
 match args with
 | [a,.xl z k j e]=>match roadV a,xs with
  | some (n,d,q,y,m,c),[]=>some ((.tup [.v (.int .i64 (if hoB c q d e k n.toNat=true then suC c e k else 0)),.v (.int .i64 (if hoB c q d e k n.toNat=true then 0 else 18))],[]),[IsT m c,IsC j k e,icE n d q c m e k=0,k≤1000])
  | _,_=>none
 | _=>none
def jrCgO:OrcH:=mOrc 18 jrCgS
theorem known_jrCg:Known Try.prog (clsO jrCgO):=known_m (fun args xs r ys ps h hp=>by
 unfold jrCgS at h
 split at h
 ·split at h
  ·rename_i n d q y m c e2
   cases h
   obtain ⟨⟨P,rfl,rfl⟩,⟨rfl,C,rfl,rfl⟩,hE,hk,-⟩:=hp
   obtain ⟨n,rfl⟩:∃ k:Nat,n=((k:Nat):Int):=⟨n.toNat,by have h9:=(roE_zero (icE_zero hE).1).2.1.1; omega⟩
   rw [roadV_eq e2]
   exact ⟨fun x hx=>absurd hx List.not_mem_nil,fun x hx=>absurd hx List.not_mem_nil,rCg n d q y P _ C hE hk⟩
  ·cases h
 ·cases h)
def jlg:OrcH:=orO (orO (orO gtO iiO) (orO roO rrO)) (orO (orO joLgO jrLgO) (orO (orO joCgO jrCgO) wkO))
theorem known_jlg (hw:Known Try.prog (clsO wkO)):Known Try.prog (clsO jlg):=known_or (known_or (known_or known_gt known_ii) (known_or known_ro known_rr)) (known_or (known_or known_joLg known_jrLg) (known_or (known_or known_joCg known_jrCg) hw))
noncomputable def lpK1:Code:=bodyC Try.f3
theorem lp_2 (n d q:Int) (y:Value) (P:List (Int×Int×Int)) (z:Value) (C:List Int) (hw:Known Try.prog (clsO wkO)) (h30:30 < P.length) (w:World) (hs:List Nat):Goes Try.prog 73 lpK1 (⟨[(0,(.agg [.v (.int .i64 n),.v (.int .i64 d),.v (.int .i64 q),.xl y P.length 3 (cT P)])),(1,(.xl z C.length 1 (cI C)))],[],0,[]⟩) (BaseW.H w hs) (OutH Try.prog Try.f3 73 (.bool true) w):=by
 have hcl_C:=cI_len C
 rcases Bool.eq_false_or_eq_true (ltI 30 ((P.length:Nat):Int)) with hqlp3_1 | hqlp3_1
 ·skip
  have ghqlp3_1:=ltI_true hqlp3_1
  exact goes_leafA isR_e (goes_told Try.checked.mixed (known_jlb hw) 200 (T':=⟨[(4,(.v (.bool .true)))],[],1,[]⟩) (e:=.ret) (ps:=[IsT P.length (cT P),ltI 30 ((P.length:Nat):Int)=true,true=true,true=true,true=true]) [.go,.go,.go,.go,.b true,.b true,.b true,.go,.b true,.go] (by kernel_rfl) (by kernel_rfl) ⟨⟨P,rfl,rfl⟩,hqlp3_1,rfl,rfl,rfl,trivial⟩ rfl) (Hd.en_eq (r:=(.bool .true)) (by rfl) (Hd.en_ret (v:=(.v (.bool .true))) (by kernel_rfl) rfl))
 ·skip
  have ghqlp3_1:=ltI_false hqlp3_1
  rcases Bool.eq_false_or_eq_true (ltI 40 ((C.length:Nat):Int)) with hqlp3_2 | hqlp3_2
  ·skip
   have ghqlp3_2:=ltI_true hqlp3_2
   exfalso
   have h9:=ltI_false hqlp3_1
   omega
  ·skip
   have ghqlp3_2:=ltI_false hqlp3_2
   rcases Bool.eq_false_or_eq_true (eqI (roE n d q (cT P) P.length) (roE n d q (cT P) P.length)) with hqlp3_3 | hqlp3_3
   ·skip
    have ghqlp3_3:=eqI_true hqlp3_3
    rcases Bool.eq_false_or_eq_true (eqI (icE n d q (cT P) P.length (cI C) C.length) (icE n d q (cT P) P.length (cI C) C.length)) with hqlp3_4 | hqlp3_4
    ·skip
     have ghqlp3_4:=eqI_true hqlp3_4
     exfalso
     have h9:=ltI_false hqlp3_1
     omega
    ·skip
     have ghqlp3_4:=eqI_false hqlp3_4
     exact absurd (eqI_self _) (by rw [hqlp3_4]; decide)
   ·skip
    have ghqlp3_3:=eqI_false hqlp3_3
    exact absurd (eqI_self _) (by rw [hqlp3_3]; decide)
theorem law_p (n d q:Int) (y:Value) (P:List (Int×Int×Int)) (z:Value) (C:List Int) (hw:Known Try.prog (clsO wkO)) (h30:30 < P.length):GivesA Try.prog 3 [(.agg [.v (.int .i64 n),.v (.int .i64 d),.v (.int .i64 q),.xl y P.length 3 (cT P)]),(.xl z C.length 1 (cI C))] (.bool true) :=
 givesA_partsH 73 Try.func3 (by kernel_rfl) (by kernel_rfl) (by kernel_rfl) (fun w=>goes_less (by kernel_rfl) (by kernel_rfl) (by kernel_rfl) (by kernel_rfl) (lp_2 n d q y P z C hw h30 w []))
noncomputable def lcK1:Code:=bodyC Try.f3
theorem lc_2 (n d q:Int) (y:Value) (P:List (Int×Int×Int)) (z:Value) (C:List Int) (hw:Known Try.prog (clsO wkO)) (h30:P.length≤30) (h40:40 < C.length) (w:World) (hs:List Nat):Goes Try.prog 73 lcK1 (⟨[(0,(.agg [.v (.int .i64 n),.v (.int .i64 d),.v (.int .i64 q),.xl y P.length 3 (cT P)])),(1,(.xl z C.length 1 (cI C)))],[],0,[]⟩) (BaseW.H w hs) (OutH Try.prog Try.f3 73 (.bool true) w):=by
 have hcl_C:=cI_len C
 rcases Bool.eq_false_or_eq_true (ltI 30 ((P.length:Nat):Int)) with hqlc3_1 | hqlc3_1
 ·skip
  have ghqlc3_1:=ltI_true hqlc3_1
  exfalso
  have h9:=ltI_true hqlc3_1
  omega
 ·skip
  have ghqlc3_1:=ltI_false hqlc3_1
  rcases Bool.eq_false_or_eq_true (ltI 40 ((C.length:Nat):Int)) with hqlc3_2 | hqlc3_2
  ·skip
   have ghqlc3_2:=ltI_true hqlc3_2
   exact goes_leafA isR_e (goes_told Try.checked.mixed (known_jlb hw) 200 (T':=⟨[(4,(.v (.bool .true)))],[],1,[]⟩) (e:=.ret) (ps:=[IsT P.length (cT P),ltI 30 ((P.length:Nat):Int)=false,false=false,false=false,ltI 40 ((C.length:Nat):Int)=true]) [.go,.go,.go,.go,.b false,.go,.b false,.go,.b false,.go,.go,.b true,.go] (by kernel_rfl) (by kernel_rfl) ⟨⟨P,rfl,rfl⟩,hqlc3_1,rfl,rfl,hqlc3_2,trivial⟩ rfl) (Hd.en_eq (r:=(.bool .true)) (by rfl) (Hd.en_ret (v:=(.v (.bool .true))) (by kernel_rfl) rfl))
  ·skip
   have ghqlc3_2:=ltI_false hqlc3_2
   rcases Bool.eq_false_or_eq_true (eqI (roE n d q (cT P) P.length) (roE n d q (cT P) P.length)) with hqlc3_3 | hqlc3_3
   ·skip
    have ghqlc3_3:=eqI_true hqlc3_3
    rcases Bool.eq_false_or_eq_true (eqI (icE n d q (cT P) P.length (cI C) C.length) (icE n d q (cT P) P.length (cI C) C.length)) with hqlc3_4 | hqlc3_4
    ·skip
     have ghqlc3_4:=eqI_true hqlc3_4
     exfalso
     have h9:=ltI_false hqlc3_2
     omega
    ·skip
     have ghqlc3_4:=eqI_false hqlc3_4
     exact absurd (eqI_self _) (by rw [hqlc3_4]; decide)
   ·skip
    have ghqlc3_3:=eqI_false hqlc3_3
    exact absurd (eqI_self _) (by rw [hqlc3_3]; decide)
theorem law_c (n d q:Int) (y:Value) (P:List (Int×Int×Int)) (z:Value) (C:List Int) (hw:Known Try.prog (clsO wkO)) (h30:P.length≤30) (h40:40 < C.length):GivesA Try.prog 3 [(.agg [.v (.int .i64 n),.v (.int .i64 d),.v (.int .i64 q),.xl y P.length 3 (cT P)]),(.xl z C.length 1 (cI C))] (.bool true) :=
 givesA_partsH 73 Try.func3 (by kernel_rfl) (by kernel_rfl) (by kernel_rfl) (fun w=>goes_less (by kernel_rfl) (by kernel_rfl) (by kernel_rfl) (by kernel_rfl) (lc_2 n d q y P z C hw h30 h40 w []))
noncomputable def lbK1:Code:=bodyC Try.f3
theorem lb_2 (n d q:Int) (y:Value) (P:List (Int×Int×Int)) (z:Value) (C:List Int) (hw:Known Try.prog (clsO wkO)) (hE:¬ icE n d q (cT P) P.length (cI C) C.length=0) (h30:P.length≤30) (hC:C.length≤40) (w:World) (hs:List Nat):Goes Try.prog 73 lbK1 (⟨[(0,(.agg [.v (.int .i64 n),.v (.int .i64 d),.v (.int .i64 q),.xl y P.length 3 (cT P)])),(1,(.xl z C.length 1 (cI C)))],[],0,[]⟩) (BaseW.H w hs) (OutH Try.prog Try.f3 73 (.bool true) w):=by
 have hcl_C:=cI_len C
 rcases Bool.eq_false_or_eq_true (ltI 30 ((P.length:Nat):Int)) with hqlb3_1 | hqlb3_1
 ·skip
  have ghqlb3_1:=ltI_true hqlb3_1
  exfalso
  have h9:=ltI_true hqlb3_1
  omega
 ·skip
  have ghqlb3_1:=ltI_false hqlb3_1
  rcases Bool.eq_false_or_eq_true (ltI 40 ((C.length:Nat):Int)) with hqlb3_2 | hqlb3_2
  ·skip
   have ghqlb3_2:=ltI_true hqlb3_2
   exfalso
   have h9:=ltI_true hqlb3_2
   omega
  ·skip
   have ghqlb3_2:=ltI_false hqlb3_2
   rcases Bool.eq_false_or_eq_true (eqI (roE n d q (cT P) P.length) (roE n d q (cT P) P.length)) with hqlb3_3 | hqlb3_3
   ·skip
    have ghqlb3_3:=eqI_true hqlb3_3
    rcases Bool.eq_false_or_eq_true (eqI (icE n d q (cT P) P.length (cI C) C.length) (icE n d q (cT P) P.length (cI C) C.length)) with hqlb3_4 | hqlb3_4
    ·skip
     have ghqlb3_4:=eqI_true hqlb3_4
     exact goes_leafA isR_e (goes_told Try.checked.mixed (known_jlb hw) 200 (T':=⟨[(4,(.v (.bool .true)))],[],1,[]⟩) (e:=.ret) (ps:=[IsT P.length (cT P),ltI 30 ((P.length:Nat):Int)=false,false=false,false=false,ltI 40 ((C.length:Nat):Int)=false,FreeL (cT P),FreeL (cI C),IsT P.length (cT P),IsC 1 C.length (cI C),¬icE n d q (cT P) P.length (cI C) C.length=0,C.length≤1000,FreeL (cT P),FreeL (cI C),IsT P.length (cT P),IsC 1 C.length (cI C),¬icE n d q (cT P) P.length (cI C) C.length=0,C.length≤1000,FreeL (cT P),FreeL (cI C),IsT P.length (cT P),IsC 1 C.length (cI C),¬icE n d q (cT P) P.length (cI C) C.length=0,C.length≤1000,FreeL (cT P),FreeL (cI C),IsT P.length (cT P),IsC 1 C.length (cI C),¬icE n d q (cT P) P.length (cI C) C.length=0,C.length≤1000,IsT P.length (cT P),IsT P.length (cT P),eqI (roE n d q (cT P) P.length) (roE n d q (cT P) P.length)=true,true=true,true=true,IsC (0 + 1) 0 [],((0:Nat)≤1000),((0:Nat)=0∧0 + 1=0 + 1∧([]:List AV)=[]),true=true,true=true,true=true,eqI (icE n d q (cT P) P.length (cI C) C.length) (icE n d q (cT P) P.length (cI C) C.length)=true,true=true,true=true,eqI 0 0=true,true=true,true=true,eqI (icE n d q (cT P) P.length (cI C) C.length) (icE n d q (cT P) P.length (cI C) C.length)=true]) [.go,.go,.go,.go,.b false,.go,.b false,.go,.b false,.go,.go,.b false,.go,.go,.go,.go,.go,.go,.go,.go,.go,.go,.go,.go,.go,.go,.go,.go,.go,.go,.go,.go,.go,.go,.go,.go,.go,.go,.go,.go,.go,.go,.go,.go,.b true,.go,.b true,.go,.b true,.go,.go,.b true,.go,.b true,.go,.b true,.go,.go,.go,.b true,.go,.b true,.go,.b true,.go,.go,.go,.b true,.go,.b true,.go,.b true,.go,.go,.go,.b true,.go,.go] (by kernel_rfl) (by kernel_rfl) ⟨⟨P,rfl,rfl⟩,hqlb3_1,rfl,rfl,hqlb3_2,(freeL_plain (cT_plain P)),(freeL_plain (cI_plain _)),⟨P,rfl,rfl⟩,⟨rfl,_,rfl,rfl⟩,hE,(by omega),(freeL_plain (cT_plain P)),(freeL_plain (cI_plain _)),⟨P,rfl,rfl⟩,⟨rfl,_,rfl,rfl⟩,hE,(by omega),(freeL_plain (cT_plain P)),(freeL_plain (cI_plain _)),⟨P,rfl,rfl⟩,⟨rfl,_,rfl,rfl⟩,hE,(by omega),(freeL_plain (cT_plain P)),(freeL_plain (cI_plain _)),⟨P,rfl,rfl⟩,⟨rfl,_,rfl,rfl⟩,hE,(by omega),⟨P,rfl,rfl⟩,⟨P,rfl,rfl⟩,hqlb3_3,rfl,rfl,⟨rfl,[],rfl,rfl⟩,(by decide),⟨rfl,rfl,rfl⟩,rfl,rfl,rfl,hqlb3_4,rfl,rfl,rfl,rfl,rfl,hqlb3_4,trivial⟩ rfl) (Hd.en_eq (r:=(.bool .true)) (by rfl) (Hd.en_ret (v:=(.v (.bool .true))) (by kernel_rfl) rfl))
    ·skip
     have ghqlb3_4:=eqI_false hqlb3_4
     exact absurd (eqI_self _) (by rw [hqlb3_4]; decide)
   ·skip
    have ghqlb3_3:=eqI_false hqlb3_3
    exact absurd (eqI_self _) (by rw [hqlb3_3]; decide)
theorem law_b (n d q:Int) (y:Value) (P:List (Int×Int×Int)) (z:Value) (C:List Int) (hw:Known Try.prog (clsO wkO)) (hE:¬ icE n d q (cT P) P.length (cI C) C.length=0) (h30:P.length≤30) (hC:C.length≤40):GivesA Try.prog 3 [(.agg [.v (.int .i64 n),.v (.int .i64 d),.v (.int .i64 q),.xl y P.length 3 (cT P)]),(.xl z C.length 1 (cI C))] (.bool true) :=
 givesA_partsH 73 Try.func3 (by kernel_rfl) (by kernel_rfl) (by kernel_rfl) (fun w=>goes_less (by kernel_rfl) (by kernel_rfl) (by kernel_rfl) (by kernel_rfl) (lb_2 n d q y P z C hw hE h30 hC w []))
noncomputable def lgK1:Code:=bodyC Try.f3
theorem lg_2 (n:Nat) (d q:Int) (y:Value) (P:List (Int×Int×Int)) (z:Value) (C:List Int) (hw:Known Try.prog (clsO wkO)) (hE:icE ((n:Nat):Int) d q (cT P) P.length (cI C) C.length=0) (h30:P.length≤30) (hC:C.length≤40) (w:World) (hs:List Nat):Goes Try.prog 73 lgK1 (⟨[(0,(.agg [.v (.int .i64 ((n:Nat):Int)),.v (.int .i64 d),.v (.int .i64 q),.xl y P.length 3 (cT P)])),(1,(.xl z C.length 1 (cI C)))],[],0,[]⟩) (BaseW.H w hs) (OutH Try.prog Try.f3 73 (.bool true) w):=by
 have hcl_C:=cI_len C
 obtain ⟨hR,hch⟩:=icE_zero hE
 obtain ⟨hm,⟨ha1,ha2,ha3⟩,hp⟩:=roE_zero hR
 have hn:n≤1000:=by omega
 rcases Bool.eq_false_or_eq_true (ltI 30 ((P.length:Nat):Int)) with hqlg3_1 | hqlg3_1
 ·skip
  have ghqlg3_1:=ltI_true hqlg3_1
  exfalso
  have h9:=ltI_true hqlg3_1
  omega
 ·skip
  have ghqlg3_1:=ltI_false hqlg3_1
  rcases Bool.eq_false_or_eq_true (ltI 40 ((C.length:Nat):Int)) with hqlg3_2 | hqlg3_2
  ·skip
   have ghqlg3_2:=ltI_true hqlg3_2
   exfalso
   have h9:=ltI_true hqlg3_2
   omega
  ·skip
   have ghqlg3_2:=ltI_false hqlg3_2
   rcases Bool.eq_false_or_eq_true (eqI (roE (((n:Nat):Int)) d q (cT P) P.length) (roE (((n:Nat):Int)) d q (cT P) P.length)) with hqlg3_3 | hqlg3_3
   ·skip
    have ghqlg3_3:=eqI_true hqlg3_3
    rcases Bool.eq_false_or_eq_true (eqI (if hoB (cT P) q d (cI C) C.length n=true then suC (cT P) (cI C) C.length else 0) (if hoB (cT P) q d (cI C) C.length n=true then suC (cT P) (cI C) C.length else 0)) with hqlg3_4 | hqlg3_4
    ·skip
     have ghqlg3_4:=eqI_true hqlg3_4
     rcases Bool.eq_false_or_eq_true (eqI (if hoB (cT P) q d (cI C) C.length n=true then 0 else 18) (if hoB (cT P) q d (cI C) C.length n=true then 0 else 18)) with hqlg3_5 | hqlg3_5
     ·skip
      have ghqlg3_5:=eqI_true hqlg3_5
      exact goes_leafA isR_e (goes_told Try.checked.mixed (known_jlg hw) 200 (T':=⟨[(4,(.v (.bool .true)))],[],3,[]⟩) (e:=.ret) (ps:=[IsT P.length (cT P),ltI 30 ((P.length:Nat):Int)=false,false=false,false=false,ltI 40 ((C.length:Nat):Int)=false,FreeL (cT P),FreeL (cI C),IsT P.length (cT P),IsC 1 C.length (cI C),icE (((n:Nat):Int)) d q (cT P) P.length (cI C) C.length=0,C.length≤1000,FreeL (cT P),FreeL (cI C),IsT P.length (cT P),IsC 1 C.length (cI C),icE (((n:Nat):Int)) d q (cT P) P.length (cI C) C.length=0,C.length≤1000,FreeL (cT P),FreeL (cI C),IsT P.length (cT P),IsC 1 C.length (cI C),icE (((n:Nat):Int)) d q (cT P) P.length (cI C) C.length=0,C.length≤1000,FreeL (cT P),FreeL (cI C),IsT P.length (cT P),IsC 1 C.length (cI C),icE (((n:Nat):Int)) d q (cT P) P.length (cI C) C.length=0,C.length≤1000,IsT P.length (cT P),IsT P.length (cT P),eqI (roE (((n:Nat):Int)) d q (cT P) P.length) (roE (((n:Nat):Int)) d q (cT P) P.length)=true,true=true,true=true,0 + n * (0 + 1)≤((cI (tabL (litF (cT P) q (cI C) C.length) n)):List AV).length,n≤n,0 + n * (0 + 1)≤((cI (tabL (litF (cT P) q (cI C) C.length) n)):List AV).length,n≤n,IsC (0 + 1) n (List.take (n * (0 + 1)) (List.drop 0 (cI (tabL (litF (cT P) q (cI C) C.length) n)))),n≤1000,n=n∧0 + 1=0 + 1∧List.take (n * (0 + 1)) (List.drop 0 (cI (tabL (litF (cT P) q (cI C) C.length) n)))=List.take (n * (0 + 1)) (List.drop 0 (cI (tabL (litF (cT P) q (cI C) C.length) n))),true=true,true=true,true=true,eqI 0 0=true,true=true,true=true,eqI (if hoB (cT P) q d (cI C) C.length n=true then suC (cT P) (cI C) C.length else 0) (if hoB (cT P) q d (cI C) C.length n=true then suC (cT P) (cI C) C.length else 0)=true,true=true,true=true,eqI (if hoB (cT P) q d (cI C) C.length n=true then 0 else 18) (if hoB (cT P) q d (cI C) C.length n=true then 0 else 18)=true]) [.go,.go,.go,.go,.b false,.go,.b false,.go,.b false,.go,.go,.b false,.go,.go,.go,.go,.go,.go,.go,.go,.go,.go,.go,.go,.go,.go,.go,.go,.go,.go,.go,.go,.go,.go,.go,.go,.go,.go,.go,.go,.go,.go,.go,.go,.b true,.go,.b true,.go,.b true,.go,.go,.b true,.go,.b true,.go,.b true,.go,.go,.go,.b true,.go,.b true,.go,.b true,.go,.go,.go,.b true,.go,.b true,.go,.b true,.go,.go,.go,.b true,.go,.go] (by kernel_rfl) (by kernel_rfl) ⟨⟨P,rfl,rfl⟩,hqlg3_1,rfl,rfl,hqlg3_2,(freeL_plain (cT_plain P)),(freeL_plain (cI_plain _)),⟨P,rfl,rfl⟩,⟨rfl,_,rfl,rfl⟩,hE,(by omega),(freeL_plain (cT_plain P)),(freeL_plain (cI_plain _)),⟨P,rfl,rfl⟩,⟨rfl,_,rfl,rfl⟩,hE,(by omega),(freeL_plain (cT_plain P)),(freeL_plain (cI_plain _)),⟨P,rfl,rfl⟩,⟨rfl,_,rfl,rfl⟩,hE,(by omega),(freeL_plain (cT_plain P)),(freeL_plain (cI_plain _)),⟨P,rfl,rfl⟩,⟨rfl,_,rfl,rfl⟩,hE,(by omega),⟨P,rfl,rfl⟩,⟨P,rfl,rfl⟩,hqlg3_3,rfl,rfl,(by rw [cI_len,tabL_len]; omega),(Nat.le_refl _),(by rw [cI_len,tabL_len]; omega),(Nat.le_refl _),⟨rfl,tabL (litF (cT P) q (cI C) C.length) n,takeT rfl,(tabL_len _ _).symm⟩,hn,⟨rfl,rfl,rfl⟩,rfl,rfl,rfl,rfl,rfl,rfl,hqlg3_4,rfl,rfl,hqlg3_5,trivial⟩ rfl) (Hd.en_eq (r:=(.bool .true)) (by rfl) (Hd.en_ret (v:=(.v (.bool .true))) (by kernel_rfl) rfl))
     ·skip
      have ghqlg3_5:=eqI_false hqlg3_5
      exact absurd (eqI_self _) (by rw [hqlg3_5]; decide)
    ·skip
     have ghqlg3_4:=eqI_false hqlg3_4
     exact absurd (eqI_self _) (by rw [hqlg3_4]; decide)
   ·skip
    have ghqlg3_3:=eqI_false hqlg3_3
    exact absurd (eqI_self _) (by rw [hqlg3_3]; decide)
theorem law_g (n:Nat) (d q:Int) (y:Value) (P:List (Int×Int×Int)) (z:Value) (C:List Int) (hw:Known Try.prog (clsO wkO)) (hE:icE ((n:Nat):Int) d q (cT P) P.length (cI C) C.length=0) (h30:P.length≤30) (hC:C.length≤40):GivesA Try.prog 3 [(.agg [.v (.int .i64 ((n:Nat):Int)),.v (.int .i64 d),.v (.int .i64 q),.xl y P.length 3 (cT P)]),(.xl z C.length 1 (cI C))] (.bool true) :=
 givesA_partsH 73 Try.func3 (by kernel_rfl) (by kernel_rfl) (by kernel_rfl) (fun w=>goes_less (by kernel_rfl) (by kernel_rfl) (by kernel_rfl) (by kernel_rfl) (lg_2 n d q y P z C hw hE h30 hC w []))
theorem law_lights (hw:Known Try.prog (clsO wkO)) (n d q:Int) (y:Value) (P:List (Int×Int×Int)) (z:Value) (C:List Int):GivesA Try.prog 3 [(.agg [.v (.int .i64 n),.v (.int .i64 d),.v (.int .i64 q),.xl y P.length 3 (cT P)]),(.xl z C.length 1 (cI C))] (.bool true):=by
 by_cases h30:30 < P.length
 ·exact law_p n d q y P z C hw h30
 ·by_cases h40:40 < C.length
  ·exact law_c n d q y P z C hw (by omega) h40
  ·by_cases hE:icE n d q (cT P) P.length (cI C) C.length=0
   ·obtain ⟨n,rfl⟩:∃ k:Nat,n=((k:Nat):Int):=⟨n.toNat,by have h9:=(roE_zero (icE_zero hE).1).2.1.1; omega⟩
    exact law_g n d q y P z C hw hE (by omega) (by omega)
   ·exact law_b n d q y P z C hw hE (by omega) (by omega)
end
end Go.Proofs.Ytnphldmnakbknaa
