import Derived.Test.YtldekgkjofgacaaZ41
set_option maxHeartbeats 4000000
set_option linter.all false
/- The law ZoneSums. -/
namespace Go.Proofs.Ytldekgkjofgacaa
open Go Ev
noncomputable section
theorem hcZ42 (A:List Int) (B:List Bool) (L:PR) (W:List Int):(cI A).length=A.length∧(cR L).length=L.length * 2∧(cB B).length=B.length∧(cI W).length=W.length:=⟨cI_len A,cR_len L,cB_len B,cI_len W⟩
theorem iRZ42 {a:Int} (h : -9223372036854775808≤a) (k:a≤9223372036854775807):inR .i64 a:=⟨h,k⟩
section
variable (A : List Int) (B : List Bool) (L : PR) (W X : List Int) (i m : Nat) (t : Int) (ya yf yl yw yx : Value)
abbrev q42_37:Ev.AB:=(.cells [(.xl (ya) (A.length) 1 (cI A)),(.xl (yl) (L.length) 2 (cR L)),(.xl (yf) (B.length) 1 (cB B)),(.xl (yw) (W.length) 1 (cI W))] 26)
abbrev q42_34:Nat×Ev.AB:=(0,(q42_37 A B L W ya yf yl yw))
abbrev q42_27:=(List.take (W.length * (0 + 1)) (List.drop 0 (splice (repL W.length (List.map AV.v (Value.int IntKind.i64 0).cells.toList)) (0 + ((IntKind.i64.wrap t).tmod W.length).toNat * 1) [.v (.int .i64 1)])))
abbrev q42_22:=(sumG (q42_27 W t) (rdB (cI A) A.length (cR L) (cB B) W.length W.length).fst W.length)
abbrev q42_21:=(sumG (q42_27 W t) (rdB (cI A) A.length (cR L) (cB B) W.length W.length).snd W.length)
abbrev q42_14:Nat×Ev.AB:=(5,(.cells [(.v (.int .i64 (q42_22 A B L W t))),(.v (.int .i64 (q42_21 A B L W t)))] 40))
abbrev q42_20:Nat×Ev.AB:=(6,(.cells [(.v (.int .i64 ((rdB (cI A) A.length (cR L) (cB B) W.length W.length).fst (intAt (cI A) (0 * 1) + (IntKind.i64.wrap t).tmod W.length - intAt (cI A) (0 * 1)).toNat))),(.v (.int .i64 ((rdB (cI A) A.length (cR L) (cB B) W.length W.length).snd (intAt (cI A) (0 * 1) + (IntKind.i64.wrap t).tmod W.length - intAt (cI A) (0 * 1)).toNat)))] 40))
abbrev q42_29:Ev.AB:=(.cells [(.v (.int .i64 (sumG (cI W) (rdB (cI A) A.length (cR L) (cB B) W.length W.length).fst W.length))),(.v (.int .i64 (sumG (cI W) (rdB (cI A) A.length (cR L) (cB B) W.length W.length).snd W.length)))] 40)
abbrev q42_28:Nat×Ev.AB:=(7,(q42_29 A B L W))
abbrev q42_1:Ev.Lit:=⟨[(1,(.xl (yx) (X.length) 1 (cI X))),(3,(.ptr 0 0)),(9,(.ptr 5 0)),(10,(.v (.int .i64 (.ofNat 0)))),(11,(.ptr 6 0)),(12,(.v (.int .i64 (.ofNat 0)))),(13,(.ptr 7 0)),(14,(.v (.int .i64 (.ofNat 0))))],[],8,[(q42_34 A B L W ya yf yl yw),(q42_14 A B L W t),(q42_20 A B L W t),(q42_28 A B L W)]⟩
abbrev q42_2:Ev.Lit:=⟨[(1,(.xl (yx) (X.length) 1 (cI X))),(3,(.ptr 0 0)),(9,(.ptr 5 0)),(10,(.v (.int .i64 (.ofNat 0)))),(11,(.ptr 6 0)),(12,(.v (.int .i64 (.ofNat 0))))],[],7,[(q42_34 A B L W ya yf yl yw),(q42_14 A B L W t),(q42_20 A B L W t)]⟩
abbrev q42_25:=(List.take (W.length * (0 + 1)) (List.drop 0 (splice (repL W.length (List.map AV.v (Value.int IntKind.i64 0).cells.toList)) (0 + ((IntKind.i64.wrap t).tmod W.length).toNat * 1) [.v (.int .i64 ((1:Int)))])))
abbrev q42_3:Ev.Lit:=⟨[(1,(.xl (yx) (X.length) 1 (cI X))),(3,(.ptr 0 0)),(7,(.v (.int .i64 ((IntKind.i64.wrap t).tmod W.length)))),(9,(.ptr 5 0)),(10,(.v (.int .i64 (.ofNat 0))))],[],6,[(q42_34 A B L W ya yf yl yw),(5,(.cells [(.v (.int .i64 (sumG (q42_25 W t) (rdB (cI A) A.length (cR L) (cB B) W.length W.length).fst W.length))),(.v (.int .i64 (sumG (q42_25 W t) (rdB (cI A) A.length (cR L) (cB B) W.length W.length).snd W.length)))] 40))]⟩
abbrev q42_4:=(eqI (q42_22 A B L W t) ((rdB (cI A) A.length (cR L) (cB B) W.length W.length).fst (intAt (cI A) (0 * 1) + (IntKind.i64.wrap t).tmod W.length - intAt (cI A) (0 * 1)).toNat) && (eqI (q42_21 A B L W t) ((rdB (cI A) A.length (cR L) (cB B) W.length W.length).snd (intAt (cI A) (0 * 1) + (IntKind.i64.wrap t).tmod W.length - intAt (cI A) (0 * 1)).toNat) && true))
abbrev q42_36:Ev.AB:=(.cells [(.xl (ya) (A.length) 1 (cI A)),(.xl (yl) (L.length) 2 (cR L)),(.xl (yf) (B.length) 1 (cB B)),(.xl (yx) (X.length) 1 (cI X))] 26)
abbrev q42_33:Nat×Ev.AB:=(8,(q42_36 A B L X ya yf yl yx))
abbrev q42_52:=(fun j=>intAt (cI X) (j * 1) + intAt (cI W) (j * 1))
abbrev q42_44:=(cI (tI (q42_52 W X) ((i + 1) + 1)))
abbrev q42_5:Ev.Lit:=⟨[(1,(.xl (yx) (X.length) 1 (cI X))),(3,(.ptr 0 0)),(13,(.ptr 7 0)),(15,(.ptr 8 0)),(16,(.ptr 9 0)),(17,(.v (.int .i64 ((((i + 1) + 1):Nat):Int))))],[],11,[(q42_34 A B L W ya yf yl yw),(q42_28 A B L W),(q42_33 A B L X ya yf yl yx),(9,(.cells [(.xl (ya) (A.length) 1 (cI A)),(.xl (yl) (L.length) 2 (cR L)),(.xl (yf) (B.length) 1 (cB B)),(.slu 10 0 ((i + 1) + 1) 0)] 26)),(10,(.row (q42_44 W X i) 2 1))]⟩
abbrev q42_46:=(cI (tI (q42_52 W X) (i + 1)))
abbrev q42_6:Ev.Lit:=⟨[(1,(.xl (yx) (X.length) 1 (cI X))),(3,(.ptr 0 0)),(13,(.ptr 7 0)),(15,(.ptr 8 0)),(16,(.ptr 9 0)),(17,(.v (.int .i64 (((i + 1):Nat):Int))))],[],11,[(q42_34 A B L W ya yf yl yw),(q42_28 A B L W),(q42_33 A B L X ya yf yl yx),(9,(.cells [(.xl (ya) (A.length) 1 (cI A)),(.xl (yl) (L.length) 2 (cR L)),(.xl (yf) (B.length) 1 (cB B)),(.slu 10 0 (i + 1) 0)] 26)),(10,(.row (q42_46 W X i) 2 1))]⟩
abbrev q42_47:=(cI (tI (q42_52 W X) (0 + 1)))
abbrev q42_7:Ev.Lit:=⟨[(1,(.xl (yx) (X.length) 1 (cI X))),(3,(.ptr 0 0)),(13,(.ptr 7 0)),(15,(.ptr 8 0)),(16,(.ptr 9 0)),(17,(.v (.int .i64 (((0 + 1):Nat):Int))))],[],11,[(q42_34 A B L W ya yf yl yw),(q42_28 A B L W),(q42_33 A B L X ya yf yl yx),(9,(.cells [(.xl (ya) (A.length) 1 (cI A)),(.xl (yl) (L.length) 2 (cR L)),(.xl (yf) (B.length) 1 (cB B)),(.slu 10 0 (0 + 1) 0)] 26)),(10,(.row (q42_47 W X) 2 1))]⟩
abbrev q42_35:Nat×Ev.AB:=(9,(.cells [(.xl (ya) (A.length) 1 (cI A)),(.xl (yl) (L.length) 2 (cR L)),(.xl (yf) (B.length) 1 (cB B)),(.v (Value.slice none 0 0))] 26))
abbrev q42_8:Ev.Lit:=⟨[(1,(.xl (yx) (X.length) 1 (cI X))),(3,(.ptr 0 0)),(13,(.ptr 7 0)),(15,(.ptr 8 0)),(16,(.ptr 9 0)),(17,(.v (.int .i64 0)))],[],10,[(q42_34 A B L W ya yf yl yw),(q42_28 A B L W),(q42_33 A B L X ya yf yl yx),(q42_35 A B L ya yf yl)]⟩
abbrev q42_9:Ev.Lit:=⟨[(1,(.xl (yx) (X.length) 1 (cI X))),(3,(.ptr 0 0)),(13,(.ptr 7 0)),(15,(.ptr 8 0)),(16,(.ptr 9 0)),(17,(.v (.int .i64 (.ofNat 0))))],[],10,[(q42_34 A B L W ya yf yl yw),(q42_28 A B L W),(q42_33 A B L X ya yf yl yx),(q42_35 A B L ya yf yl)]⟩
abbrev q42_10:Ev.Lit:=⟨[(1,(.xl (yx) (X.length) 1 (cI X))),(3,(.ptr 0 0)),(13,(.ptr 7 0)),(15,(.ptr 8 0)),(16,(.ptr 9 0))],[],10,[(q42_34 A B L W ya yf yl yw),(q42_28 A B L W),(8,(q42_37 A B L W ya yf yl yw)),(9,(q42_37 A B L W ya yf yl yw))]⟩
abbrev q42_11:Ev.Lit:=⟨[(1,(.xl (yx) (X.length) 1 (cI X))),(3,(.ptr 0 0)),(13,(.ptr 7 0)),(15,(.ptr 8 0)),(16,(.ptr 9 0))],[],10,[(q42_34 A B L W ya yf yl yw),(q42_28 A B L W),(q42_33 A B L X ya yf yl yx),(q42_35 A B L ya yf yl)]⟩
abbrev q42_41:=(List.take ((m + 1) * (0 + 1)) (List.drop 0 (cI (tI (q42_52 W X) (m + 1)))))
abbrev q42_12:=(eqI (sumG (q42_41 W X m) (rdB (cI A) A.length (cR L) (cB B) (m + 1) (m + 1)).fst (m + 1)) (sumG (cI W) (rdB (cI A) A.length (cR L) (cB B) W.length W.length).fst W.length + sumG (cI X) (rdB (cI A) A.length (cR L) (cB B) X.length X.length).fst X.length) && (eqI (sumG (q42_41 W X m) (rdB (cI A) A.length (cR L) (cB B) (m + 1) (m + 1)).snd (m + 1)) (sumG (cI W) (rdB (cI A) A.length (cR L) (cB B) W.length W.length).snd W.length + sumG (cI X) (rdB (cI A) A.length (cR L) (cB B) X.length X.length).snd X.length) && true))
abbrev q42_13:Ev.Lit:=⟨[(13,(.ptr 7 0)),(15,(.ptr 8 0)),(16,(.ptr 9 0))],[],11,[(q42_28 A B L W),(q42_33 A B L X ya yf yl yx),(9,(.cells [(.xl (ya) (A.length) 1 (cI A)),(.xl (yl) (L.length) 2 (cR L)),(.xl (yf) (B.length) 1 (cB B)),(.slu 10 0 ((m) + 1) 0)] 26)),(10,(.row (cI (tI (q42_52 W X) ((m) + 1))) 2 1))]⟩
abbrev q42_15:Ev.Lit:=⟨[(1,(.xl (yx) (X.length) 1 (cI X))),(3,(.ptr 0 0)),(7,(.v (.int .i64 ((IntKind.i64.wrap t).tmod W.length)))),(8,(.ptr 3 0))],[],5,[(q42_34 A B L W ya yf yl yw),(3,(.cells [(.xl (ya) (A.length) 1 (cI A)),(.xl (yl) (L.length) 2 (cR L)),(.xl (yf) (B.length) 1 (cB B)),(.sl 4 0 (W.length) (W.length))] 26)),(4,(.cells (splice (repL W.length (List.map AV.v (Value.int IntKind.i64 0).cells.toList)) (0 + ((IntKind.i64.wrap t).tmod W.length).toNat * 1) [(.v (.int .i64 (.ofNat 1)))]) 2))]⟩
abbrev q42_16:Ev.Lit:=⟨[(13,(.ptr 7 0)),(15,(.ptr 8 0)),(16,(.ptr 9 0))],[],10,[(q42_28 A B L W),(q42_33 A B L X ya yf yl yx),(q42_35 A B L ya yf yl)]⟩
abbrev q42_17:Ev.Lit:=⟨[(1,(.xl (yx) (X.length) 1 (cI X))),(3,(.ptr 0 0)),(7,(.v (.int .i64 ((IntKind.i64.wrap t).tmod W.length)))),(8,(.ptr 3 0))],[],5,[(q42_34 A B L W ya yf yl yw),(3,(.cells [(.xl (ya) (A.length) 1 (cI A)),(.xl (yl) (L.length) 2 (cR L)),(.xl (yf) (B.length) 1 (cB B)),(.sl 4 0 (W.length) (W.length))] 26)),(4,(.cells (repL W.length (List.map AV.v (Value.int IntKind.i64 0).cells.toList)) 2))]⟩
abbrev q42_18:Ev.Lit:=⟨[(1,(.xl (yx) (X.length) 1 (cI X))),(3,(.ptr 0 0)),(7,(.v (.int .i64 ((IntKind.i64.wrap t).tmod W.length)))),(8,(.ptr 3 0))],[],4,[(q42_34 A B L W ya yf yl yw),(3,(q42_37 A B L W ya yf yl yw))]⟩
abbrev q42_19:Ev.Lit:=⟨[(1,(.xl (yx) (X.length) 1 (cI X))),(3,(.ptr 0 0)),(13,(.ptr 7 0))],[],8,[(q42_34 A B L W ya yf yl yw),(q42_28 A B L W)]⟩
abbrev q42_23:Ev.Lit:=⟨[(1,(.xl (yx) (X.length) 1 (cI X))),(3,(.ptr 0 0)),(7,(.v (.int .i64 ((IntKind.i64.wrap t).tmod W.length))))],[],3,[(q42_34 A B L W ya yf yl yw)]⟩
abbrev q42_24:Ev.Lit:=⟨[(1,(.xl (yx) (X.length) 1 (cI X))),(2,(.v (.int .u8 (t)))),(3,(.ptr 0 0))],[],1,[(q42_34 A B L W ya yf yl yw)]⟩
abbrev q42_26:Ev.Lit:=⟨[(1,(.xl (yx) (X.length) 1 (cI X))),(2,(.v (.int .u8 (t)))),(3,(.ptr 0 0))],[],3,[(q42_34 A B L W ya yf yl yw)]⟩
abbrev q42_43:List Ev.AV:=[.xl ya A.length 1 (cI A),.xl yl L.length 2 (cR L),.xl yf B.length 1 (cB B),.xl yw W.length 1 (cI W)]
abbrev q42_30:Ev.Lit:=⟨[(0,.agg (q42_43 A B L W ya yf yl yw)),(1,.xl yx X.length 1 (cI X)),(2,.v (.int .u8 t))],[],0,[]⟩
abbrev q42_31:=(eqI (clE (cI A) A.length (cR L) L.length B.length (q42_41 W X m) (m + 1)) 0)
abbrev q42_32:Ev.AB:=(.row ((q42_46 W X i) ++ [(.v (.int .i64 (intAt (cI X) ((i + 1) * 1) + intAt (cI W) ((i + 1) * 1))))]) 2 1)
abbrev q42_38:Ev.AB:=(.cells [(.xl (ya) (A.length) 1 (cI A)),(.xl (yl) (L.length) 2 (cR L)),(.xl (yf) (B.length) 1 (cB B)),(.slu 12 0 (i + 1 + 1) 0)] 26)
abbrev q42_39:List Ev.AV:=[(.xl (yx) (X.length) 1 (cI X)),(.ptr 0 0),(.ptr 7 0),(.ptr 8 0),(.ptr 9 0),(.v (.int .i64 (((i + 1:Nat):Int) + 1)))]
abbrev q42_40:Ev.AB:=(.cells [(.xl (ya) (A.length) 1 (cI A)),(.xl (yl) (L.length) 2 (cR L)),(.xl (yf) (B.length) 1 (cB B)),(.slu 11 0 1 0)] 26)
abbrev q42_42:List Ev.AV:=[(.xl (yx) (X.length) 1 (cI X)),(.ptr 0 0),(.ptr 7 0),(.ptr 8 0),(.ptr 9 0),(.v (.int .i64 (.ofNat 1)))]
abbrev q42_45:Ev.AB:=(.row [(.v (.int .i64 (intAt (cI X) (0 * 1) + intAt (cI W) (0 * 1))))] 2 1)
abbrev q42_50:=(clE (cI A) A.length (cR L) L.length B.length (cI W) W.length)
abbrev q42_48:=(eqI (q42_50 A B L W) 0)
abbrev q42_51:=(clE (cI A) A.length (cR L) L.length B.length (cI X) X.length)
abbrev q42_49:=(eqI (q42_51 A B L X) 0)
abbrev q42_53:=(clB (dtd (cI A) A.length (cR L) (cB B) W.length))
abbrev q42_54:Ev.Lit:=⟨[(6,(.v (.bool .true)))],[],11,[]⟩
abbrev q42_55:Ev.Lit:=⟨[(6,(.v (.bool .true)))],[],10,[]⟩
abbrev q42_56:Ev.Lit:=⟨[(6,(.v (.bool .true)))],[],3,[]⟩
end
def zScK1:Code:=bodyC Try.f11
def zScK3:Code:=tlC zScK1
theorem zSc_5 (ya yl yf yw:Value) (A:List Int) (L:PR) (B:List Bool) (W:List Int) (yx:Value) (X:List Int) (t:Int) (hw:Known pg (clsO zwO)) (ht:0≤t∧t≤255) (hnz:¬ ZK A L B W) (w:World) (hs:LN):Goes pg 170 zScK3 ((q42_24 A B L W X t ya yf yl yw yx)) (BaseW.H w hs) (OutH pg Try.f11 170 (.bool true) w):=by
 obtain ⟨hcl_A,hcl_L,hcl_B,hcl_W⟩:=hcZ42 A B L W
 have hcl_X:=cI_len X
 refine Hd.goes_seqA (by kernel_rfl) ?_
 rcases bE (ltI 14 A.length) with Q40 | Q40
 ·skip
  have Q123:=lT Q40
  exact gL isR_e (gT cm (known_zs hw) 200 (T':=q42_56) (e:=.ret) (ps:=[ltI 14 A.length=true,true=true,true=true,true=true,true=true,true=true,true=true,true=true,true=true,true=true,true=true,true=true,(!true)=false,false=false,false=false,false=false,false=false,false=false,(!false)=true,true=true,true=true,true=true]) [.go,.go,.go,.go,.go,.go,.go,.go,.go,.go,.go,.b true,.b true,.b true,.b true,.go,.go,.b true,.b true,.b true,.b true,.go,.go,.b true,.b true,.b true,.b true,.go,.go,.go,.go,.b false,.b false,.b false,.go,.go,.b false,.b false,.b false,.go,.go,.go,.go,.b true,.b true,.b true,.go,.b true,.go] (by kernel_rfl) (by kernel_rfl) ⟨Q40,rfl,rfl,rfl,rfl,rfl,rfl,rfl,rfl,rfl,rfl,rfl,rfl,rfl,rfl,rfl,rfl,rfl,rfl,rfl,rfl,rfl,trivial⟩ rfl) (Hd.en_o (by intro h; cases h) (Hd.en_eq (r:=(.bool .true)) (by rfl) (Hd.en_ret (v:=(.v (.bool .true))) (by kernel_rfl) rfl)))
 ·skip
  have Q123:=lF Q40
  rcases bE (ltI 14 L.length) with Q48 | Q48
  ·skip
   have Q124:=lT Q48
   exact gL isR_e (gT cm (known_zs hw) 200 (T':=q42_56) (e:=.ret) (ps:=[ltI 14 A.length=false,false=false,false=false,false=false,ltI 14 L.length=true,true=true,true=true,true=true,true=true,true=true,true=true,true=true,(!true)=false,false=false,false=false,false=false,false=false,false=false,(!false)=true,true=true,true=true,true=true]) [.go,.go,.go,.go,.go,.go,.go,.go,.go,.go,.go,.b false,.go,.b false,.go,.b false,.go,.b false,.go,.go,.go,.b true,.b true,.b true,.b true,.go,.go,.b true,.b true,.b true,.b true,.go,.go,.go,.go,.b false,.b false,.b false,.go,.go,.b false,.b false,.b false,.go,.go,.go,.go,.b true,.b true,.b true,.go,.b true,.go] (by kernel_rfl) (by kernel_rfl) ⟨Q40,rfl,rfl,rfl,Q48,rfl,rfl,rfl,rfl,rfl,rfl,rfl,rfl,rfl,rfl,rfl,rfl,rfl,rfl,rfl,rfl,rfl,trivial⟩ rfl) (Hd.en_o (by intro h; cases h) (Hd.en_eq (r:=(.bool .true)) (by rfl) (Hd.en_ret (v:=(.v (.bool .true))) (by kernel_rfl) rfl)))
  ·skip
   have Q124:=lF Q48
   rcases bE (ltI 14 B.length) with Q57 | Q57
   ·skip
    have Q125:=lT Q57
    exact gL isR_e (gT cm (known_zs hw) 200 (T':=q42_56) (e:=.ret) (ps:=[ltI 14 A.length=false,false=false,false=false,false=false,ltI 14 L.length=false,false=false,false=false,false=false,ltI 14 B.length=true,true=true,true=true,true=true,(!true)=false,false=false,false=false,false=false,false=false,false=false,(!false)=true,true=true,true=true,true=true]) [.go,.go,.go,.go,.go,.go,.go,.go,.go,.go,.go,.b false,.go,.b false,.go,.b false,.go,.b false,.go,.go,.go,.b false,.go,.b false,.go,.b false,.go,.b false,.go,.go,.go,.b true,.b true,.b true,.b true,.go,.go,.go,.go,.b false,.b false,.b false,.go,.go,.b false,.b false,.b false,.go,.go,.go,.go,.b true,.b true,.b true,.go,.b true,.go] (by kernel_rfl) (by kernel_rfl) ⟨Q40,rfl,rfl,rfl,Q48,rfl,rfl,rfl,Q57,rfl,rfl,rfl,rfl,rfl,rfl,rfl,rfl,rfl,rfl,rfl,rfl,rfl,trivial⟩ rfl) (Hd.en_o (by intro h; cases h) (Hd.en_eq (r:=(.bool .true)) (by rfl) (Hd.en_ret (v:=(.v (.bool .true))) (by kernel_rfl) rfl)))
   ·skip
    have Q125:=lF Q57
    rcases bE (ltI 100 W.length) with Q73 | Q73
    ·skip
     have Q126:=lT Q73
     exact gL isR_e (gT cm (known_zs hw) 200 (T':=q42_56) (e:=.ret) (ps:=[ltI 14 A.length=false,false=false,false=false,false=false,ltI 14 L.length=false,false=false,false=false,false=false,ltI 14 B.length=false,false=false,false=false,false=false,(!ltI 100 W.length)=false,false=false,false=false,false=false,false=false,false=false,(!false)=true,true=true,true=true,true=true]) [.go,.go,.go,.go,.go,.go,.go,.go,.go,.go,.go,.b false,.go,.b false,.go,.b false,.go,.b false,.go,.go,.go,.b false,.go,.b false,.go,.b false,.go,.b false,.go,.go,.go,.b false,.go,.b false,.go,.b false,.go,.b false,.go,.go,.go,.go,.go,.b false,.b false,.b false,.go,.go,.b false,.b false,.b false,.go,.go,.go,.go,.b true,.b true,.b true,.go,.b true,.go] (by kernel_rfl) (by kernel_rfl) ⟨Q40,rfl,rfl,rfl,Q48,rfl,rfl,rfl,Q57,rfl,rfl,rfl,(by rw [Q73]; rfl),rfl,rfl,rfl,rfl,rfl,rfl,rfl,rfl,rfl,trivial⟩ rfl) (Hd.en_o (by intro h; cases h) (Hd.en_eq (r:=(.bool .true)) (by rfl) (Hd.en_ret (v:=(.v (.bool .true))) (by kernel_rfl) rfl)))
    ·skip
     have Q126:=lF Q73
     rcases bE (q42_48 A B L W) with Q49 | Q49
     ·skip
      have Q127:=eqI_true Q49
      rcases bE (q42_53 A B L W) with Q128 | Q128
      ·skip
       exact absurd (eqI_true Q49) hnz
      ·skip
       rcases bE (ltI 100 X.length) with Q90 | Q90
       ·skip
        have Q129:=lT Q90
        exact absurd (eqI_true Q49) hnz
       ·skip
        have Q129:=lF Q90
        exact absurd (eqI_true Q49) hnz
     ·skip
      have Q127:=eqI_false Q49
      exact gL isR_e (gT cm (known_zs hw) 200 (T':=q42_56) (e:=.ret) (ps:=[ltI 14 A.length=false,false=false,false=false,false=false,ltI 14 L.length=false,false=false,false=false,false=false,ltI 14 B.length=false,false=false,false=false,false=false,(!ltI 100 W.length)=true,true=true,IsLampK 1 2 1 1 (cI A) A.length (cR L) L.length (cB B) B.length (cI W) W.length,true=true,eqI (q42_50 A B L W) 0=false,false=false,false=false,(!false)=true,true=true,true=true,true=true]) [.go,.go,.go,.go,.go,.go,.go,.go,.go,.go,.go,.b false,.go,.b false,.go,.b false,.go,.b false,.go,.go,.go,.b false,.go,.b false,.go,.b false,.go,.b false,.go,.go,.go,.b false,.go,.b false,.go,.b false,.go,.b false,.go,.go,.go,.go,.go,.b true,.go,.b true,.b true,.go,.go,.go,.b false,.b false,.b false,.go,.go,.go,.go,.b true,.b true,.b true,.go,.b true,.go] (by kernel_rfl) (by kernel_rfl) ⟨Q40,rfl,rfl,rfl,Q48,rfl,rfl,rfl,Q57,rfl,rfl,rfl,(by rw [Q73]; rfl),rfl,⟨rfl,rfl,rfl,rfl,A,L,B,W,rfl,rfl,rfl,rfl,rfl,rfl,rfl,rfl⟩,rfl,Q49,rfl,rfl,rfl,rfl,rfl,rfl,trivial⟩ rfl) (Hd.en_o (by intro h; cases h) (Hd.en_eq (r:=(.bool .true)) (by rfl) (Hd.en_ret (v:=(.v (.bool .true))) (by kernel_rfl) rfl)))
theorem zSc_2 (ya yl yf yw:Value) (A:List Int) (L:PR) (B:List Bool) (W:List Int) (yx:Value) (X:List Int) (t:Int) (hw:Known pg (clsO zwO)) (ht:0≤t∧t≤255) (hnz:¬ ZK A L B W) (w:World) (hs:LN):Goes pg 170 zScK1 ((q42_30 A B L W X t ya yf yl yw yx)) (BaseW.H w hs) (OutH pg Try.f11 170 (.bool true) w):=by
 obtain ⟨hcl_A,hcl_L,hcl_B,hcl_W⟩:=hcZ42 A B L W
 have hcl_X:=cI_len X
 refine Hd.goes_seqA (by kernel_rfl) ?_
 exact gL isN_e (gT cm (known_zs hw) 200 (T':=(q42_24 A B L W X t ya yf yl yw yx)) (e:=.normal) (ps:=[]) [.go,.go] (by kernel_rfl) (by kernel_rfl) trivial rfl) (Hd.en_n (zSc_5 ya yl yf yw A L B W yx X t hw ht hnz w hs))
theorem zs_c (ya yl yf yw:Value) (A:List Int) (L:PR) (B:List Bool) (W:List Int) (yx:Value) (X:List Int) (t:Int) (hw:Known pg (clsO zwO)) (ht:0≤t∧t≤255) (hnz:¬ ZK A L B W):GivesA pg 11 [.agg (q42_43 A B L W ya yf yl yw),.xl yx X.length 1 (cI X),.v (.int .u8 t)] (.bool true) :=
 givesA_partsH 170 Try.func11 (by kernel_rfl) (by kernel_rfl) (by kernel_rfl) (fun w=>goes_less (by kernel_rfl) (by kernel_rfl) (by kernel_rfl) (by kernel_rfl) (zSc_2 ya yl yf yw A L B W yx X t hw ht hnz w []))
def zSdK1:Code:=bodyC Try.f11
def zSdK3:Code:=tlC zSdK1
theorem zSd_5 (ya yl yf yw:Value) (A:List Int) (L:PR) (B:List Bool) (W:List Int) (yx:Value) (X:List Int) (t:Int) (hw:Known pg (clsO zwO)) (ht:0≤t∧t≤255) (hz:ZK A L B W) (hd:dtd (cI A) A.length (cR L) (cB B) W.length) (w:World) (hs:LN):Goes pg 170 zSdK3 ((q42_24 A B L W X t ya yf yl yw yx)) (BaseW.H w hs) (OutH pg Try.f11 170 (.bool true) w):=by
 obtain ⟨hcl_A,hcl_L,hcl_B,hcl_W⟩:=hcZ42 A B L W
 have hcl_X:=cI_len X
 refine Hd.goes_seqA (by kernel_rfl) ?_
 rcases bE (ltI 14 A.length) with Q41 | Q41
 ·skip
  have Q130:=lT Q41
  exact gL isR_e (gT cm (known_zs hw) 200 (T':=q42_56) (e:=.ret) (ps:=[ltI 14 A.length=true,true=true,true=true,true=true,true=true,true=true,true=true,true=true,true=true,true=true,true=true,true=true,(!true)=false,false=false,false=false,false=false,false=false,false=false,(!false)=true,true=true,true=true,true=true]) [.go,.go,.go,.go,.go,.go,.go,.go,.go,.go,.go,.b true,.b true,.b true,.b true,.go,.go,.b true,.b true,.b true,.b true,.go,.go,.b true,.b true,.b true,.b true,.go,.go,.go,.go,.b false,.b false,.b false,.go,.go,.b false,.b false,.b false,.go,.go,.go,.go,.b true,.b true,.b true,.go,.b true,.go] (by kernel_rfl) (by kernel_rfl) ⟨Q41,rfl,rfl,rfl,rfl,rfl,rfl,rfl,rfl,rfl,rfl,rfl,rfl,rfl,rfl,rfl,rfl,rfl,rfl,rfl,rfl,rfl,trivial⟩ rfl) (Hd.en_o (by intro h; cases h) (Hd.en_eq (r:=(.bool .true)) (by rfl) (Hd.en_ret (v:=(.v (.bool .true))) (by kernel_rfl) rfl)))
 ·skip
  have Q130:=lF Q41
  rcases bE (ltI 14 L.length) with Q50 | Q50
  ·skip
   have Q131:=lT Q50
   exact gL isR_e (gT cm (known_zs hw) 200 (T':=q42_56) (e:=.ret) (ps:=[ltI 14 A.length=false,false=false,false=false,false=false,ltI 14 L.length=true,true=true,true=true,true=true,true=true,true=true,true=true,true=true,(!true)=false,false=false,false=false,false=false,false=false,false=false,(!false)=true,true=true,true=true,true=true]) [.go,.go,.go,.go,.go,.go,.go,.go,.go,.go,.go,.b false,.go,.b false,.go,.b false,.go,.b false,.go,.go,.go,.b true,.b true,.b true,.b true,.go,.go,.b true,.b true,.b true,.b true,.go,.go,.go,.go,.b false,.b false,.b false,.go,.go,.b false,.b false,.b false,.go,.go,.go,.go,.b true,.b true,.b true,.go,.b true,.go] (by kernel_rfl) (by kernel_rfl) ⟨Q41,rfl,rfl,rfl,Q50,rfl,rfl,rfl,rfl,rfl,rfl,rfl,rfl,rfl,rfl,rfl,rfl,rfl,rfl,rfl,rfl,rfl,trivial⟩ rfl) (Hd.en_o (by intro h; cases h) (Hd.en_eq (r:=(.bool .true)) (by rfl) (Hd.en_ret (v:=(.v (.bool .true))) (by kernel_rfl) rfl)))
  ·skip
   have Q131:=lF Q50
   rcases bE (ltI 14 B.length) with Q58 | Q58
   ·skip
    have Q132:=lT Q58
    exact gL isR_e (gT cm (known_zs hw) 200 (T':=q42_56) (e:=.ret) (ps:=[ltI 14 A.length=false,false=false,false=false,false=false,ltI 14 L.length=false,false=false,false=false,false=false,ltI 14 B.length=true,true=true,true=true,true=true,(!true)=false,false=false,false=false,false=false,false=false,false=false,(!false)=true,true=true,true=true,true=true]) [.go,.go,.go,.go,.go,.go,.go,.go,.go,.go,.go,.b false,.go,.b false,.go,.b false,.go,.b false,.go,.go,.go,.b false,.go,.b false,.go,.b false,.go,.b false,.go,.go,.go,.b true,.b true,.b true,.b true,.go,.go,.go,.go,.b false,.b false,.b false,.go,.go,.b false,.b false,.b false,.go,.go,.go,.go,.b true,.b true,.b true,.go,.b true,.go] (by kernel_rfl) (by kernel_rfl) ⟨Q41,rfl,rfl,rfl,Q50,rfl,rfl,rfl,Q58,rfl,rfl,rfl,rfl,rfl,rfl,rfl,rfl,rfl,rfl,rfl,rfl,rfl,trivial⟩ rfl) (Hd.en_o (by intro h; cases h) (Hd.en_eq (r:=(.bool .true)) (by rfl) (Hd.en_ret (v:=(.v (.bool .true))) (by kernel_rfl) rfl)))
   ·skip
    have Q132:=lF Q58
    rcases bE (ltI 100 W.length) with Q74 | Q74
    ·skip
     have Q133:=lT Q74
     exact gL isR_e (gT cm (known_zs hw) 200 (T':=q42_56) (e:=.ret) (ps:=[ltI 14 A.length=false,false=false,false=false,false=false,ltI 14 L.length=false,false=false,false=false,false=false,ltI 14 B.length=false,false=false,false=false,false=false,(!ltI 100 W.length)=false,false=false,false=false,false=false,false=false,false=false,(!false)=true,true=true,true=true,true=true]) [.go,.go,.go,.go,.go,.go,.go,.go,.go,.go,.go,.b false,.go,.b false,.go,.b false,.go,.b false,.go,.go,.go,.b false,.go,.b false,.go,.b false,.go,.b false,.go,.go,.go,.b false,.go,.b false,.go,.b false,.go,.b false,.go,.go,.go,.go,.go,.b false,.b false,.b false,.go,.go,.b false,.b false,.b false,.go,.go,.go,.go,.b true,.b true,.b true,.go,.b true,.go] (by kernel_rfl) (by kernel_rfl) ⟨Q41,rfl,rfl,rfl,Q50,rfl,rfl,rfl,Q58,rfl,rfl,rfl,(by rw [Q74]; rfl),rfl,rfl,rfl,rfl,rfl,rfl,rfl,rfl,rfl,trivial⟩ rfl) (Hd.en_o (by intro h; cases h) (Hd.en_eq (r:=(.bool .true)) (by rfl) (Hd.en_ret (v:=(.v (.bool .true))) (by kernel_rfl) rfl)))
    ·skip
     have Q133:=lF Q74
     rcases bE (eqI (clE (cI A) A.length (cR L) L.length B.length (cI W) W.length) 0) with Q75 | Q75
     ·skip
      have Q134:=eqI_true Q75
      rcases bE (clB (dtd (cI A) A.length (cR L) (cB B) W.length)) with Q86 | Q86
      ·skip
       exact gL isR_e (gT cm (known_zs hw) 200 (T':=q42_56) (e:=.ret) (ps:=[ltI 14 A.length=false,false=false,false=false,false=false,ltI 14 L.length=false,false=false,false=false,false=false,ltI 14 B.length=false,false=false,false=false,false=false,(!ltI 100 W.length)=true,true=true,IsLampK 1 2 1 1 (cI A) A.length (cR L) L.length (cB B) B.length (cI W) W.length,true=true,eqI (clE (cI A) A.length (cR L) L.length B.length (cI W) W.length) 0=true,true=true,IsLampK 1 2 1 1 (cI A) A.length (cR L) L.length (cB B) B.length (cI W) W.length,ZK A L B W,true=true,(!!clB (dtd (cI A) A.length (cR L) (cB B) W.length))=true,true=true,true=true,true=true]) [.go,.go,.go,.go,.go,.go,.go,.go,.go,.go,.go,.b false,.go,.b false,.go,.b false,.go,.b false,.go,.go,.go,.b false,.go,.b false,.go,.b false,.go,.b false,.go,.go,.go,.b false,.go,.b false,.go,.b false,.go,.b false,.go,.go,.go,.go,.go,.b true,.go,.b true,.b true,.go,.go,.go,.b true,.go,.b true,.b true,.go,.go,.go,.go,.go,.b true,.b true,.b true,.go,.b true,.go] (by kernel_rfl) (by kernel_rfl) ⟨Q41,rfl,rfl,rfl,Q50,rfl,rfl,rfl,Q58,rfl,rfl,rfl,(by rw [Q74]; rfl),rfl,⟨rfl,rfl,rfl,rfl,A,L,B,W,rfl,rfl,rfl,rfl,rfl,rfl,rfl,rfl⟩,rfl,Q75,rfl,⟨rfl,rfl,rfl,rfl,A,L,B,W,rfl,rfl,rfl,rfl,rfl,rfl,rfl,rfl⟩,hz,rfl,(by rw [Q86]; rfl),rfl,rfl,rfl,trivial⟩ rfl) (Hd.en_o (by intro h; cases h) (Hd.en_eq (r:=(.bool .true)) (by rfl) (Hd.en_ret (v:=(.v (.bool .true))) (by kernel_rfl) rfl)))
      ·skip
       rcases bE (ltI 100 X.length) with Q91 | Q91
       ·skip
        have Q135:=lT Q91
        exact absurd hd (clB_false Q86)
       ·skip
        have Q135:=lF Q91
        exact absurd hd (clB_false Q86)
     ·skip
      have Q134:=eqI_false Q75
      exact absurd hz (eqI_false Q75)
theorem zSd_2 (ya yl yf yw:Value) (A:List Int) (L:PR) (B:List Bool) (W:List Int) (yx:Value) (X:List Int) (t:Int) (hw:Known pg (clsO zwO)) (ht:0≤t∧t≤255) (hz:ZK A L B W) (hd:dtd (cI A) A.length (cR L) (cB B) W.length) (w:World) (hs:LN):Goes pg 170 zSdK1 ((q42_30 A B L W X t ya yf yl yw yx)) (BaseW.H w hs) (OutH pg Try.f11 170 (.bool true) w):=by
 obtain ⟨hcl_A,hcl_L,hcl_B,hcl_W⟩:=hcZ42 A B L W
 have hcl_X:=cI_len X
 refine Hd.goes_seqA (by kernel_rfl) ?_
 exact gL isN_e (gT cm (known_zs hw) 200 (T':=(q42_24 A B L W X t ya yf yl yw yx)) (e:=.normal) (ps:=[]) [.go,.go] (by kernel_rfl) (by kernel_rfl) trivial rfl) (Hd.en_n (zSd_5 ya yl yf yw A L B W yx X t hw ht hz hd w hs))
theorem zs_d (ya yl yf yw:Value) (A:List Int) (L:PR) (B:List Bool) (W:List Int) (yx:Value) (X:List Int) (t:Int) (hw:Known pg (clsO zwO)) (ht:0≤t∧t≤255) (hz:ZK A L B W) (hd:dtd (cI A) A.length (cR L) (cB B) W.length):GivesA pg 11 [.agg (q42_43 A B L W ya yf yl yw),.xl yx X.length 1 (cI X),.v (.int .u8 t)] (.bool true) :=
 givesA_partsH 170 Try.func11 (by kernel_rfl) (by kernel_rfl) (by kernel_rfl) (fun w=>goes_less (by kernel_rfl) (by kernel_rfl) (by kernel_rfl) (by kernel_rfl) (zSd_2 ya yl yf yw A L B W yx X t hw ht hz hd w []))
def zSxK1:Code:=bodyC Try.f11
def zSxK3:Code:=tlC zSxK1
theorem zSx_5 (ya yl yf yw:Value) (A:List Int) (L:PR) (B:List Bool) (W:List Int) (yx:Value) (X:List Int) (t:Int) (hw:Known pg (clsO zwO)) (ht:0≤t∧t≤255) (hz:ZK A L B W) (hd:¬ dtd (cI A) A.length (cR L) (cB B) W.length) (hX:100 < X.length) (w:World) (hs:LN):Goes pg 170 zSxK3 ((q42_24 A B L W X t ya yf yl yw yx)) (BaseW.H w hs) (OutH pg Try.f11 170 (.bool true) w):=by
 obtain ⟨hcl_A,hcl_L,hcl_B,hcl_W⟩:=hcZ42 A B L W
 have hcl_X:=cI_len X
 refine Hd.goes_seqA (by kernel_rfl) ?_
 rcases bE (ltI 14 A.length) with Q42 | Q42
 ·skip
  have Q136:=lT Q42
  exact gL isR_e (gT cm (known_zs hw) 200 (T':=q42_56) (e:=.ret) (ps:=[ltI 14 A.length=true,true=true,true=true,true=true,true=true,true=true,true=true,true=true,true=true,true=true,true=true,true=true,(!true)=false,false=false,false=false,false=false,false=false,false=false,(!false)=true,true=true,true=true,true=true]) [.go,.go,.go,.go,.go,.go,.go,.go,.go,.go,.go,.b true,.b true,.b true,.b true,.go,.go,.b true,.b true,.b true,.b true,.go,.go,.b true,.b true,.b true,.b true,.go,.go,.go,.go,.b false,.b false,.b false,.go,.go,.b false,.b false,.b false,.go,.go,.go,.go,.b true,.b true,.b true,.go,.b true,.go] (by kernel_rfl) (by kernel_rfl) ⟨Q42,rfl,rfl,rfl,rfl,rfl,rfl,rfl,rfl,rfl,rfl,rfl,rfl,rfl,rfl,rfl,rfl,rfl,rfl,rfl,rfl,rfl,trivial⟩ rfl) (Hd.en_o (by intro h; cases h) (Hd.en_eq (r:=(.bool .true)) (by rfl) (Hd.en_ret (v:=(.v (.bool .true))) (by kernel_rfl) rfl)))
 ·skip
  have Q136:=lF Q42
  rcases bE (ltI 14 L.length) with Q51 | Q51
  ·skip
   have Q137:=lT Q51
   exact gL isR_e (gT cm (known_zs hw) 200 (T':=q42_56) (e:=.ret) (ps:=[ltI 14 A.length=false,false=false,false=false,false=false,ltI 14 L.length=true,true=true,true=true,true=true,true=true,true=true,true=true,true=true,(!true)=false,false=false,false=false,false=false,false=false,false=false,(!false)=true,true=true,true=true,true=true]) [.go,.go,.go,.go,.go,.go,.go,.go,.go,.go,.go,.b false,.go,.b false,.go,.b false,.go,.b false,.go,.go,.go,.b true,.b true,.b true,.b true,.go,.go,.b true,.b true,.b true,.b true,.go,.go,.go,.go,.b false,.b false,.b false,.go,.go,.b false,.b false,.b false,.go,.go,.go,.go,.b true,.b true,.b true,.go,.b true,.go] (by kernel_rfl) (by kernel_rfl) ⟨Q42,rfl,rfl,rfl,Q51,rfl,rfl,rfl,rfl,rfl,rfl,rfl,rfl,rfl,rfl,rfl,rfl,rfl,rfl,rfl,rfl,rfl,trivial⟩ rfl) (Hd.en_o (by intro h; cases h) (Hd.en_eq (r:=(.bool .true)) (by rfl) (Hd.en_ret (v:=(.v (.bool .true))) (by kernel_rfl) rfl)))
  ·skip
   have Q137:=lF Q51
   rcases bE (ltI 14 B.length) with Q59 | Q59
   ·skip
    have Q138:=lT Q59
    exact gL isR_e (gT cm (known_zs hw) 200 (T':=q42_56) (e:=.ret) (ps:=[ltI 14 A.length=false,false=false,false=false,false=false,ltI 14 L.length=false,false=false,false=false,false=false,ltI 14 B.length=true,true=true,true=true,true=true,(!true)=false,false=false,false=false,false=false,false=false,false=false,(!false)=true,true=true,true=true,true=true]) [.go,.go,.go,.go,.go,.go,.go,.go,.go,.go,.go,.b false,.go,.b false,.go,.b false,.go,.b false,.go,.go,.go,.b false,.go,.b false,.go,.b false,.go,.b false,.go,.go,.go,.b true,.b true,.b true,.b true,.go,.go,.go,.go,.b false,.b false,.b false,.go,.go,.b false,.b false,.b false,.go,.go,.go,.go,.b true,.b true,.b true,.go,.b true,.go] (by kernel_rfl) (by kernel_rfl) ⟨Q42,rfl,rfl,rfl,Q51,rfl,rfl,rfl,Q59,rfl,rfl,rfl,rfl,rfl,rfl,rfl,rfl,rfl,rfl,rfl,rfl,rfl,trivial⟩ rfl) (Hd.en_o (by intro h; cases h) (Hd.en_eq (r:=(.bool .true)) (by rfl) (Hd.en_ret (v:=(.v (.bool .true))) (by kernel_rfl) rfl)))
   ·skip
    have Q138:=lF Q59
    rcases bE (ltI 100 W.length) with Q76 | Q76
    ·skip
     have Q139:=lT Q76
     exact gL isR_e (gT cm (known_zs hw) 200 (T':=q42_56) (e:=.ret) (ps:=[ltI 14 A.length=false,false=false,false=false,false=false,ltI 14 L.length=false,false=false,false=false,false=false,ltI 14 B.length=false,false=false,false=false,false=false,(!ltI 100 W.length)=false,false=false,false=false,false=false,false=false,false=false,(!false)=true,true=true,true=true,true=true]) [.go,.go,.go,.go,.go,.go,.go,.go,.go,.go,.go,.b false,.go,.b false,.go,.b false,.go,.b false,.go,.go,.go,.b false,.go,.b false,.go,.b false,.go,.b false,.go,.go,.go,.b false,.go,.b false,.go,.b false,.go,.b false,.go,.go,.go,.go,.go,.b false,.b false,.b false,.go,.go,.b false,.b false,.b false,.go,.go,.go,.go,.b true,.b true,.b true,.go,.b true,.go] (by kernel_rfl) (by kernel_rfl) ⟨Q42,rfl,rfl,rfl,Q51,rfl,rfl,rfl,Q59,rfl,rfl,rfl,(by rw [Q76]; rfl),rfl,rfl,rfl,rfl,rfl,rfl,rfl,rfl,rfl,trivial⟩ rfl) (Hd.en_o (by intro h; cases h) (Hd.en_eq (r:=(.bool .true)) (by rfl) (Hd.en_ret (v:=(.v (.bool .true))) (by kernel_rfl) rfl)))
    ·skip
     have Q139:=lF Q76
     rcases bE (eqI (clE (cI A) A.length (cR L) L.length B.length (cI W) W.length) 0) with Q77 | Q77
     ·skip
      have Q140:=eqI_true Q77
      rcases bE (clB (dtd (cI A) A.length (cR L) (cB B) W.length)) with Q92 | Q92
      ·skip
       exact absurd (clB_true.1 Q92) hd
      ·skip
       rcases bE (ltI 100 X.length) with Q78 | Q78
       ·skip
        have Q141:=lT Q78
        exact gL isR_e (gT cm (known_zs hw) 200 (T':=q42_56) (e:=.ret) (ps:=[ltI 14 A.length=false,false=false,false=false,false=false,ltI 14 L.length=false,false=false,false=false,false=false,ltI 14 B.length=false,false=false,false=false,false=false,(!ltI 100 W.length)=true,true=true,IsLampK 1 2 1 1 (cI A) A.length (cR L) L.length (cB B) B.length (cI W) W.length,true=true,eqI (clE (cI A) A.length (cR L) L.length B.length (cI W) W.length) 0=true,true=true,IsLampK 1 2 1 1 (cI A) A.length (cR L) L.length (cB B) B.length (cI W) W.length,ZK A L B W,true=true,(!!clB (dtd (cI A) A.length (cR L) (cB B) W.length))=false,false=false,false=false,ltI 100 X.length=true]) [.go,.go,.go,.go,.go,.go,.go,.go,.go,.go,.go,.b false,.go,.b false,.go,.b false,.go,.b false,.go,.go,.go,.b false,.go,.b false,.go,.b false,.go,.b false,.go,.go,.go,.b false,.go,.b false,.go,.b false,.go,.b false,.go,.go,.go,.go,.go,.b true,.go,.b true,.b true,.go,.go,.go,.b true,.go,.b true,.b true,.go,.go,.go,.go,.go,.b false,.go,.b false,.go,.b false,.go,.go,.b true,.go] (by kernel_rfl) (by kernel_rfl) ⟨Q42,rfl,rfl,rfl,Q51,rfl,rfl,rfl,Q59,rfl,rfl,rfl,(by rw [Q76]; rfl),rfl,⟨rfl,rfl,rfl,rfl,A,L,B,W,rfl,rfl,rfl,rfl,rfl,rfl,rfl,rfl⟩,rfl,Q77,rfl,⟨rfl,rfl,rfl,rfl,A,L,B,W,rfl,rfl,rfl,rfl,rfl,rfl,rfl,rfl⟩,hz,rfl,(by rw [Q92]; rfl),rfl,rfl,Q78,trivial⟩ rfl) (Hd.en_o (by intro h; cases h) (Hd.en_eq (r:=(.bool .true)) (by rfl) (Hd.en_ret (v:=(.v (.bool .true))) (by kernel_rfl) rfl)))
       ·skip
        have Q141:=lF Q78
        exfalso
        have h9:=lF Q78
        omega
     ·skip
      have Q140:=eqI_false Q77
      exact absurd hz (eqI_false Q77)
theorem zSx_2 (ya yl yf yw:Value) (A:List Int) (L:PR) (B:List Bool) (W:List Int) (yx:Value) (X:List Int) (t:Int) (hw:Known pg (clsO zwO)) (ht:0≤t∧t≤255) (hz:ZK A L B W) (hd:¬ dtd (cI A) A.length (cR L) (cB B) W.length) (hX:100 < X.length) (w:World) (hs:LN):Goes pg 170 zSxK1 ((q42_30 A B L W X t ya yf yl yw yx)) (BaseW.H w hs) (OutH pg Try.f11 170 (.bool true) w):=by
 obtain ⟨hcl_A,hcl_L,hcl_B,hcl_W⟩:=hcZ42 A B L W
 have hcl_X:=cI_len X
 refine Hd.goes_seqA (by kernel_rfl) ?_
 exact gL isN_e (gT cm (known_zs hw) 200 (T':=(q42_24 A B L W X t ya yf yl yw yx)) (e:=.normal) (ps:=[]) [.go,.go] (by kernel_rfl) (by kernel_rfl) trivial rfl) (Hd.en_n (zSx_5 ya yl yf yw A L B W yx X t hw ht hz hd hX w hs))
theorem zs_x (ya yl yf yw:Value) (A:List Int) (L:PR) (B:List Bool) (W:List Int) (yx:Value) (X:List Int) (t:Int) (hw:Known pg (clsO zwO)) (ht:0≤t∧t≤255) (hz:ZK A L B W) (hd:¬ dtd (cI A) A.length (cR L) (cB B) W.length) (hX:100 < X.length):GivesA pg 11 [.agg (q42_43 A B L W ya yf yl yw),.xl yx X.length 1 (cI X),.v (.int .u8 t)] (.bool true) :=
 givesA_partsH 170 Try.func11 (by kernel_rfl) (by kernel_rfl) (by kernel_rfl) (fun w=>goes_less (by kernel_rfl) (by kernel_rfl) (by kernel_rfl) (by kernel_rfl) (zSx_2 ya yl yf yw A L B W yx X t hw ht hz hd hX w []))
def zSgK1:Code:=bodyC Try.f11
def zSgK3:Code:=tlC zSgK1
def zSgK6:Code:=tlC zSgK3
def zSgK9:Code:=tlC zSgK6
def zSgK12:Code:=tlC zSgK9
def zSgK15:Code:=tlC zSgK12
def zSgK18:Code:=tlC zSgK15
def zSgK21:Code:=tlC zSgK18
def zSgK24:Code:=tlC zSgK21
def zSgK27:Code:=tlC zSgK24
def zSgK30:Code:=tlC zSgK27
def zSgK33:Code:=tlC zSgK30
def zSgK36:Code:=tlC zSgK33
def zSgK39:Code:=tlC zSgK36
def zSgK40:Code:=(hdC zSgK36)
def zSgK42:Code:=tlC zSgK40
def zSgK47:Code:=loopC zSgK42
theorem zSo_49 (ya yl yf yw:Value) (A:List Int) (L:PR) (B:List Bool) (W:List Int) (yx:Value) (X:List Int) (t:Int) (hw:Known pg (clsO zwO)) (ht:0≤t∧t≤255) (hz:ZK A L B W) (hd:¬ dtd (cI A) A.length (cR L) (cB B) W.length) (hX:X.length≤100) (h0:X.length=0) (Q27:(ltI 14 A.length)=false) (Q28:(ltI 14 L.length)=false) (Q29:(ltI 14 B.length)=false) (Q37:(ltI 100 W.length)=false) (Q38:(q42_48 A B L W)=true) (Q60:(q42_53 A B L W)=false) (Q30:(ltI 100 X.length)=false) (Q61:(q42_4 A B L W t)=true) (h0b:True) (Q31:(ltI X.length X.length)=false) (w:World) (hs:LN):Goes pg 170 zSgK39 ((q42_16 A B L W X ya yf yl yx)) (BaseW.H w hs) (OutH pg Try.f11 170 (.bool true) w):=by
 obtain ⟨hcl_A,hcl_L,hcl_B,hcl_W⟩:=hcZ42 A B L W
 have hcl_X:=cI_len X
 obtain ⟨hn,ha,he,hl,hw0⟩:=clE_zero hz
 have hW:=nw_le hz
 have hf:=fd_none hz hd
 have hr:=rdB_rng (B:=B) hz
 have he2:=he
 unfold eqP degI at he2
 have hA0:=ang_bd ha 0 (by omega)
 have hW1:1≤W.length:=by have:=deg_bd hn ha he 0 (by omega); omega
 have hk:=kt_bd (n:=W.length) ht hW1
 have Q112:=lF Q27
 have Q113:=lF Q28
 have Q114:=lF Q29
 have Q115:=lF Q37
 have Q116:=eqI_true Q38
 have Q117:=lF Q30
 have Q118:=lF Q31
 rcases bE (q42_49 A B L X) with Q39 | Q39
 ·skip
  have Q142:=eqI_true Q39
  rcases bE (clB (dtd (cI A) A.length (cR L) (cB B) X.length)) with Q143 | Q143
  ·skip
   exact absurd (clE_len hz (eqI_true Q39)) (by omega)
  ·skip
   rcases bE (eqI (clE (cI A) A.length (cR L) L.length B.length [] 0) 0) with Q87 | Q87
   ·skip
    have Q144:=eqI_true Q87
    have hzy:=eqI_true Q87
    rcases bE (clB (dtd (cI A) A.length (cR L) (cB B) 0)) with Q145 | Q145
    ·skip
     exact absurd (clE_len hz (eqI_true Q39)) (by omega)
    ·skip
     rcases bE (eqI (sumG [] (rdB (cI A) A.length (cR L) (cB B) 0 0).fst 0) (sumG (cI W) (rdB (cI A) A.length (cR L) (cB B) W.length W.length).fst W.length + sumG (cI X) (rdB (cI A) A.length (cR L) (cB B) X.length X.length).fst X.length) && (eqI (sumG [] (rdB (cI A) A.length (cR L) (cB B) 0 0).snd 0) (sumG (cI W) (rdB (cI A) A.length (cR L) (cB B) W.length W.length).snd W.length + sumG (cI X) (rdB (cI A) A.length (cR L) (cB B) X.length X.length).snd X.length) && true)) with Q146 | Q146
     ·skip
      exact absurd (clE_len hz (eqI_true Q39)) (by omega)
     ·skip
      exact absurd (clE_len hz (eqI_true Q39)) (by omega)
   ·skip
    have Q144:=eqI_false Q87
    exact absurd (clE_len hz (eqI_true Q39)) (by omega)
 ·skip
  have Q142:=eqI_false Q39
  exact gL isR_e (gT cm (known_zs hw) 200 (T':=⟨[(6,(.v (.bool .true)))],[],12,[]⟩) (e:=.ret) (ps:=[ltI 14 A.length=false,false=false,false=false,false=false,ltI 14 L.length=false,false=false,false=false,false=false,ltI 14 B.length=false,false=false,false=false,false=false,(!ltI 100 X.length)=true,true=true,IsLampK 1 2 1 1 (cI A) A.length (cR L) L.length (cB B) B.length (cI X) X.length,true=true,eqI (q42_51 A B L X) 0=false,false=false,false=false,(!false)=true,true=true,true=true,true=true]) [.go,.go,.go,.go,.go,.go,.go,.go,.go,.go,.go,.b false,.go,.b false,.go,.b false,.go,.b false,.go,.go,.go,.b false,.go,.b false,.go,.b false,.go,.b false,.go,.go,.go,.b false,.go,.b false,.go,.b false,.go,.b false,.go,.go,.go,.go,.go,.b true,.go,.b true,.b true,.go,.go,.go,.b false,.b false,.b false,.go,.go,.go,.go,.b true,.b true,.b true,.go,.b true,.go] (by kernel_rfl) (by kernel_rfl) ⟨Q27,rfl,rfl,rfl,Q28,rfl,rfl,rfl,Q29,rfl,rfl,rfl,(by rw [Q30]; rfl),rfl,⟨rfl,rfl,rfl,rfl,A,L,B,X,rfl,rfl,rfl,rfl,rfl,rfl,rfl,rfl⟩,rfl,Q39,rfl,rfl,rfl,rfl,rfl,rfl,trivial⟩ rfl) (Hd.en_eq (r:=(.bool .true)) (by rfl) (Hd.en_ret (v:=(.v (.bool .true))) (by kernel_rfl) rfl))
theorem zSo_47 (ya yl yf yw:Value) (A:List Int) (L:PR) (B:List Bool) (W:List Int) (yx:Value) (X:List Int) (t:Int) (hw:Known pg (clsO zwO)) (ht:0≤t∧t≤255) (hz:ZK A L B W) (hd:¬ dtd (cI A) A.length (cR L) (cB B) W.length) (hX:X.length≤100) (h0:X.length=0) (Q27:(ltI 14 A.length)=false) (Q28:(ltI 14 L.length)=false) (Q29:(ltI 14 B.length)=false) (Q37:(ltI 100 W.length)=false) (Q38:(q42_48 A B L W)=true) (Q60:(q42_53 A B L W)=false) (Q30:(ltI 100 X.length)=false) (Q61:(q42_4 A B L W t)=true) (i:Nat) (hi1:i≤X.length) (hi2:True) (w:World) (hs:LN):Goes pg 170 zSgK47 (⟨[(1,(.xl (yx) (X.length) 1 (cI X))),(3,(.ptr 0 0)),(13,(.ptr 7 0)),(15,(.ptr 8 0)),(16,(.ptr 9 0)),(17,(.v (.int .i64 i)))],[],10,[(q42_34 A B L W ya yf yl yw),(q42_28 A B L W),(q42_33 A B L X ya yf yl yx),(q42_35 A B L ya yf yl)]⟩) (BaseW.H w hs) (Hd.StepC pg 170 0 (fun i:{i:Nat // i≤X.length∧True}=>⟨[(1,(.xl (yx) (X.length) 1 (cI X))),(3,(.ptr 0 0)),(13,(.ptr 7 0)),(15,(.ptr 8 0)),(16,(.ptr 9 0)),(17,(.v (.int .i64 i.1)))],[],10,[(q42_34 A B L W ya yf yl yw),(q42_28 A B L W),(q42_33 A B L X ya yf yl yx),(q42_35 A B L ya yf yl)]⟩) (fun i:{i:Nat // i≤X.length∧True}=>X.length - i.1) zSgK39 w (OutH pg Try.f11 170 (.bool true) w) (⟨i,hi1,hi2⟩:{i:Nat // i≤X.length∧True})):=by
 obtain ⟨hcl_A,hcl_L,hcl_B,hcl_W⟩:=hcZ42 A B L W
 have hcl_X:=cI_len X
 obtain ⟨hn,ha,he,hl,hw0⟩:=clE_zero hz
 have hW:=nw_le hz
 have hf:=fd_none hz hd
 have hr:=rdB_rng (B:=B) hz
 have he2:=he
 unfold eqP degI at he2
 have hA0:=ang_bd ha 0 (by omega)
 have hW1:1≤W.length:=by have:=deg_bd hn ha he 0 (by omega); omega
 have hk:=kt_bd (n:=W.length) ht hW1
 have Q112:=lF Q27
 have Q113:=lF Q28
 have Q114:=lF Q29
 have Q115:=lF Q37
 have Q116:=eqI_true Q38
 have Q117:=lF Q30
 rcases bE (ltI i X.length) with Q31 | Q31
 ·skip
  have Q118:=lT Q31
  rcases bE (ltI i W.length) with Q93 | Q93
  ·skip
   have Q147:=lT Q93
   have hwi:=hw0 (i) (by omega)
   unfold wgtAt at hwi
   rcases bE (ltI (intAt (cI X) (i * 1)) 0) with Q94 | Q94
   ·skip
    have Q148:=lT Q94
    exfalso
    have h9:=lT Q31
    omega
   ·skip
    have Q148:=lF Q94
    rcases bE (ltI 1000 (intAt (cI X) (i * 1))) with Q95 | Q95
    ·skip
     have Q149:=lT Q95
     exfalso
     have h9:=lT Q31
     omega
    ·skip
     have Q149:=lF Q95
     exfalso
     omega
  ·skip
   have Q147:=lF Q93
   exfalso
   have h9:=lT Q31
   omega
 ·skip
  have Q118:=lF Q31
  obtain rfl:i=X.length:=by omega
  exact gL isX_e (gT cm (known_zs hw) 200 (T':=(q42_16 A B L W X ya yf yl yx)) (e:=.exit 0) (ps:=[ltI X.length X.length=false,false=false,false=false,false=false,false=false,false=false]) [.go,.go,.go,.go,.go,.b false,.b false,.b false,.b false,.b false,.go,.b false] (by kernel_rfl) (by kernel_rfl) ⟨Q31,rfl,rfl,rfl,rfl,rfl,trivial⟩ rfl) (Hd.en_sx (zSo_49 ya yl yf yw A L B W yx X t hw ht hz hd hX h0 Q27 Q28 Q29 Q37 Q38 Q60 Q30 Q61 hi2  Q31 w hs))
theorem zSo_45 (ya yl yf yw:Value) (A:List Int) (L:PR) (B:List Bool) (W:List Int) (yx:Value) (X:List Int) (t:Int) (hw:Known pg (clsO zwO)) (ht:0≤t∧t≤255) (hz:ZK A L B W) (hd:¬ dtd (cI A) A.length (cR L) (cB B) W.length) (hX:X.length≤100) (h0:X.length=0) (Q27:(ltI 14 A.length)=false) (Q28:(ltI 14 L.length)=false) (Q29:(ltI 14 B.length)=false) (Q37:(ltI 100 W.length)=false) (Q38:(q42_48 A B L W)=true) (Q60:(q42_53 A B L W)=false) (Q30:(ltI 100 X.length)=false) (Q61:(q42_4 A B L W t)=true) (w:World) (hs:LN):Goes pg 170 zSgK42 ((q42_9 A B L W X ya yf yl yw yx)) (BaseW.H w hs) (Hd.AfterN pg 170 zSgK39 w (OutH pg Try.f11 170 (.bool true) w)):=by
 obtain ⟨hcl_A,hcl_L,hcl_B,hcl_W⟩:=hcZ42 A B L W
 have hcl_X:=cI_len X
 obtain ⟨hn,ha,he,hl,hw0⟩:=clE_zero hz
 have hW:=nw_le hz
 have hf:=fd_none hz hd
 have hr:=rdB_rng (B:=B) hz
 have he2:=he
 unfold eqP degI at he2
 have hA0:=ang_bd ha 0 (by omega)
 have hW1:1≤W.length:=by have:=deg_bd hn ha he 0 (by omega); omega
 have hk:=kt_bd (n:=W.length) ht hW1
 have Q112:=lF Q27
 have Q113:=lF Q28
 have Q114:=lF Q29
 have Q115:=lF Q37
 have Q116:=eqI_true Q38
 have Q117:=lF Q30
 exact Hd.goes_loopA (id:=0) (by kernel_rfl) (by kernel_rfl) (fun i:{i:Nat // i≤X.length∧True}=>⟨[(1,(.xl (yx) (X.length) 1 (cI X))),(3,(.ptr 0 0)),(13,(.ptr 7 0)),(15,(.ptr 8 0)),(16,(.ptr 9 0)),(17,(.v (.int .i64 i.1)))],[],10,[(q42_34 A B L W ya yf yl yw),(q42_28 A B L W),(q42_33 A B L X ya yf yl yx),(q42_35 A B L ya yf yl)]⟩) (fun i:{i:Nat // i≤X.length∧True}=>X.length - i.1) (fun ix_ hs=>zSo_47 ya yl yf yw A L B W yx X t hw ht hz hd hX h0 Q27 Q28 Q29 Q37 Q38 Q60 Q30 Q61 ix_.1 ix_.2.1 ix_.2.2 w hs) ⟨0,Nat.zero_le _,trivial⟩ hs
theorem zSo_44 (ya yl yf yw:Value) (A:List Int) (L:PR) (B:List Bool) (W:List Int) (yx:Value) (X:List Int) (t:Int) (hw:Known pg (clsO zwO)) (ht:0≤t∧t≤255) (hz:ZK A L B W) (hd:¬ dtd (cI A) A.length (cR L) (cB B) W.length) (hX:X.length≤100) (h0:X.length=0) (Q27:(ltI 14 A.length)=false) (Q28:(ltI 14 L.length)=false) (Q29:(ltI 14 B.length)=false) (Q37:(ltI 100 W.length)=false) (Q38:(q42_48 A B L W)=true) (Q60:(q42_53 A B L W)=false) (Q30:(ltI 100 X.length)=false) (Q61:(q42_4 A B L W t)=true) (w:World) (hs:LN):Goes pg 170 zSgK42 ((q42_9 A B L W X ya yf yl yw yx)) (BaseW.H w hs) (Hd.AfterN pg 170 zSgK39 w (OutH pg Try.f11 170 (.bool true) w)):=by
 exact zSo_45 ya yl yf yw A L B W yx X t hw ht hz hd hX h0 Q27 Q28 Q29 Q37 Q38 Q60 Q30 Q61 w hs
theorem zSp_48 (ya yl yf yw:Value) (A:List Int) (L:PR) (B:List Bool) (W:List Int) (yx:Value) (X:List Int) (t:Int) (m:Nat) (hw:Known pg (clsO zwO)) (ht:0≤t∧t≤255) (hz:ZK A L B W) (hd:¬ dtd (cI A) A.length (cR L) (cB B) W.length) (hX:X.length≤100) (hm:X.length=m + 1) (hlt:X.length < W.length) (Q14:(ltI 14 A.length)=false) (Q15:(ltI 14 L.length)=false) (Q16:(ltI 14 B.length)=false) (Q22:(ltI 100 W.length)=false) (Q23:(q42_48 A B L W)=true) (Q43:(q42_53 A B L W)=false) (Q17:(ltI 100 X.length)=false) (Q44:(q42_4 A B L W t)=true) (hi1:0≤(m + 1)) (hi2:True) (w:World) (hs:LN):Goes pg 170 zSgK47 ((q42_8 A B L W X ya yf yl yw yx)) (BaseW.H w hs) (Hd.StepC pg 170 0 (fun i:{i:Nat // i≤(m + 1)∧True}=>Ev.fam0 (q42_8 A B L W X ya yf yl yw yx) (fun i=>(q42_6 A B L W X i ya yf yl yw yx)) i.1) (fun i:{i:Nat // i≤(m + 1)∧True}=>(m + 1) - i.1) zSgK39 w (OutH pg Try.f11 170 (.bool true) w) (⟨0,hi1,hi2⟩:{i:Nat // i≤(m + 1)∧True})):=by
 obtain ⟨hcl_A,hcl_L,hcl_B,hcl_W⟩:=hcZ42 A B L W
 have hcl_X:=cI_len X
 obtain ⟨hn,ha,he,hl,hw0⟩:=clE_zero hz
 have hW:=nw_le hz
 have hf:=fd_none hz hd
 have hr:=rdB_rng (B:=B) hz
 have he2:=he
 unfold eqP degI at he2
 have hA0:=ang_bd ha 0 (by omega)
 have hW1:1≤W.length:=by have:=deg_bd hn ha he 0 (by omega); omega
 have hk:=kt_bd (n:=W.length) ht hW1
 have Q96:=lF Q14
 have Q97:=lF Q15
 have Q98:=lF Q16
 have Q99:=lF Q22
 have Q100:=eqI_true Q23
 have Q101:=lF Q17
 rcases bE (ltI 0 X.length) with Q62 | Q62
 ·skip
  have Q150:=lT Q62
  rcases bE (ltI 0 W.length) with Q52 | Q52
  ·skip
   have Q151:=lT Q52
   have hwi:=hw0 (0) (by omega)
   unfold wgtAt at hwi
   rcases bE (ltI (intAt (cI X) (0 * 1)) 0) with Q63 | Q63
   ·skip
    have Q152:=lT Q63
    exact gL isR_e (gT cm (known_zs hw) 200 (T':=q42_55) (e:=.ret) (ps:=[ltI 0 X.length=true,true=true,true=true,true=true,true=true,ltI 0 W.length=true,0 < X.length,loadL pg (cI X) (0 * 1) 2=some (.v (.int .i64 (intAt (cI X) (0 * 1)))),ltI (intAt (cI X) (0 * 1)) 0=true,true=true,true=true,true=true,true=true,true=true]) [.go,.go,.go,.go,.go,.b true,.go,.b true,.go,.b true,.go,.b true,.go,.b true,.go,.go,.b true,.go,.go,.sym,.sym,.go,.go,.b true,.b true,.b true,.b true,.b true,.go,.b true,.go] (by kernel_rfl) (by kernel_rfl) ⟨Q62,rfl,rfl,rfl,rfl,Q52,(by omega),(cI_load (by omega) 2 (u2) rfl),Q63,rfl,rfl,rfl,rfl,rfl,trivial⟩ rfl) (Hd.en_so (by intro h; cases h) (by intro h; cases h) (Hd.en_eq (r:=(.bool .true)) (by rfl) (Hd.en_ret (v:=(.v (.bool .true))) (by kernel_rfl) rfl)))
   ·skip
    have Q152:=lF Q63
    rcases bE (ltI 1000 (intAt (cI X) (0 * 1))) with Q79 | Q79
    ·skip
     have Q153:=lT Q79
     exact gL isR_e (gT cm (known_zs hw) 200 (T':=q42_55) (e:=.ret) (ps:=[ltI 0 X.length=true,true=true,true=true,true=true,true=true,ltI 0 W.length=true,0 < X.length,loadL pg (cI X) (0 * 1) 2=some (.v (.int .i64 (intAt (cI X) (0 * 1)))),ltI (intAt (cI X) (0 * 1)) 0=false,false=false,false=false,0 < X.length,false=false,loadL pg (cI X) (0 * 1) 2=some (.v (.int .i64 (intAt (cI X) (0 * 1)))),false=false,ltI 1000 (intAt (cI X) (0 * 1))=true]) [.go,.go,.go,.go,.go,.b true,.go,.b true,.go,.b true,.go,.b true,.go,.b true,.go,.go,.b true,.go,.go,.sym,.sym,.go,.go,.b false,.go,.b false,.go,.b false,.sym,.b false,.sym,.b false,.go,.go,.b true,.go] (by kernel_rfl) (by kernel_rfl) ⟨Q62,rfl,rfl,rfl,rfl,Q52,(by omega),(cI_load (by omega) 2 (u2) rfl),Q63,rfl,rfl,(by omega),rfl,(cI_load (by omega) 2 (u2) rfl),rfl,Q79,trivial⟩ rfl) (Hd.en_so (by intro h; cases h) (by intro h; cases h) (Hd.en_eq (r:=(.bool .true)) (by rfl) (Hd.en_ret (v:=(.v (.bool .true))) (by kernel_rfl) rfl)))
    ·skip
     have Q153:=lF Q79
     exact gL isN_e (gC cm (known_zs hw) 200 (T':=(q42_7 A B L W X ya yf yl yw yx)) (e:=.normal) (m:=12) (ps:=[ltI 0 X.length=true,true=true,true=true,true=true,true=true,ltI 0 W.length=true,0 < X.length,loadL pg (cI X) (0 * 1) 2=some (.v (.int .i64 (intAt (cI X) (0 * 1)))),ltI (intAt (cI X) (0 * 1)) 0=false,false=false,false=false,0 < X.length,false=false,loadL pg (cI X) (0 * 1) 2=some (.v (.int .i64 (intAt (cI X) (0 * 1)))),false=false,ltI 1000 (intAt (cI X) (0 * 1))=false,0 < X.length,loadL pg (cI X) (0 * 1) 2=some (.v (.int .i64 (intAt (cI X) (0 * 1)))),0 < W.length,loadL pg (cI W) (0 * 1) 2=some (.v (.int .i64 (intAt (cI W) (0 * 1)))),inR .i64 (intAt (cI X) (0 * 1) + intAt (cI W) (0 * 1)),inR .i64 (((0:Nat):Int) + 1)]) [.go,.go,.go,.go,.go,.b true,.go,.b true,.go,.b true,.go,.b true,.go,.b true,.go,.go,.b true,.go,.go,.sym,.sym,.go,.go,.b false,.go,.b false,.go,.b false,.sym,.b false,.sym,.b false,.go,.go,.b false,.go,.go,.go,.go,.sym,.sym,.go,.go,.go,.sym,.sym,.go,.go,.go,.go,.go,.go,.go,.go] [0,1,2,3,4,5,6,7,8,9,11] (q42_42 X yx) [(q42_37 A B L W ya yf yl yw),(q42_29 A B L W),(q42_36 A B L X ya yf yl yx),(q42_40 A B L ya yf yl),(q42_45 W X)] (by kernel_rfl) (by kernel_rfl) ⟨Q62,rfl,rfl,rfl,rfl,Q52,(by omega),(cI_load (by omega) 2 (u2) rfl),Q63,rfl,rfl,(by omega),rfl,(cI_load (by omega) 2 (u2) rfl),rfl,Q79,(by omega),(cI_load (by omega) 2 (u2) rfl),(by omega),(cI_load (by omega) 2 (u2) rfl),(iRZ42 (by omega) (by omega)),(iRZ42 (by omega) (by omega)),trivial⟩ rfl rfl (by decide) rfl ⟨nr_xl (nrl_plain (cI_plain X)),nr_ptr rfl,nr_ptr rfl,nr_ptr rfl,nr_ptr rfl,nr_int (show (1:Int)=(((0 + 1):Nat):Int) from by omega),trivial⟩ ⟨⟨by show 0 < 11; decide,nrb_cells (nrl_cons (nr_xl (nrl_plain (cI_plain A))) (nrl_cons (nr_xl (nrl_plain (cR_plain L))) (nrl_cons (nr_xl (nrl_plain (cB_plain B))) (nrl_cons (nr_xl (nrl_plain (cI_plain W))) (nrl_nil)))))⟩,⟨by show 7 < 11; decide,nrb_cells (nrl_cons (nr_v _) (nrl_cons (nr_v _) (nrl_nil)))⟩,⟨by show 8 < 11; decide,nrb_cells (nrl_cons (nr_xl (nrl_plain (cI_plain A))) (nrl_cons (nr_xl (nrl_plain (cR_plain L))) (nrl_cons (nr_xl (nrl_plain (cB_plain B))) (nrl_cons (nr_xl (nrl_plain (cI_plain X))) (nrl_nil)))))⟩,⟨by show 9 < 11; decide,nrb_cells (nrl_cons (nr_xl (nrl_plain (cI_plain A))) (nrl_cons (nr_xl (nrl_plain (cR_plain L))) (nrl_cons (nr_xl (nrl_plain (cB_plain B))) (nrl_cons (nr_slu rfl) (nrl_nil)))))⟩,⟨by show 10 < 11; decide,nrb_row (nrl_eq (show ((q42_47 W X):List AV)=[(.v (.int .i64 (intAt (cI X) (0 * 1) + intAt (cI W) (0 * 1))))] from by first | exact (tI_one _).symm | exact (tI_app _ _).symm) (cI_plain _))⟩,trivial⟩) (Hd.en_on (⟨0 + 1,by omega,trivial⟩) (by show (m + 1) - (0 + 1) < (m + 1) - 0; omega) rfl)
  ·skip
   have Q151:=lF Q52
   exfalso
   have h9:=lF Q52
   omega
 ·skip
  have Q150:=lF Q62
  exfalso; omega
theorem zSp_52 (ya yl yf yw:Value) (A:List Int) (L:PR) (B:List Bool) (W:List Int) (yx:Value) (X:List Int) (t:Int) (m:Nat) (hw:Known pg (clsO zwO)) (ht:0≤t∧t≤255) (hz:ZK A L B W) (hd:¬ dtd (cI A) A.length (cR L) (cB B) W.length) (hX:X.length≤100) (hm:X.length=m + 1) (hlt:X.length < W.length) (Q14:(ltI 14 A.length)=false) (Q15:(ltI 14 L.length)=false) (Q16:(ltI 14 B.length)=false) (Q22:(ltI 100 W.length)=false) (Q23:(q42_48 A B L W)=true) (Q43:(q42_53 A B L W)=false) (Q17:(ltI 100 X.length)=false) (Q44:(q42_4 A B L W t)=true) (h0b:True) (Q32:(ltI (((m) + 1:Nat):Int) X.length)=false) (w:World) (hs:LN):Goes pg 170 zSgK39 ((q42_13 A B L W X m ya yf yl yx)) (BaseW.H w hs) (OutH pg Try.f11 170 (.bool true) w):=by
 obtain ⟨hcl_A,hcl_L,hcl_B,hcl_W⟩:=hcZ42 A B L W
 have hcl_X:=cI_len X
 obtain ⟨hn,ha,he,hl,hw0⟩:=clE_zero hz
 have hW:=nw_le hz
 have hf:=fd_none hz hd
 have hr:=rdB_rng (B:=B) hz
 have he2:=he
 unfold eqP degI at he2
 have hA0:=ang_bd ha 0 (by omega)
 have hW1:1≤W.length:=by have:=deg_bd hn ha he 0 (by omega); omega
 have hk:=kt_bd (n:=W.length) ht hW1
 have Q96:=lF Q14
 have Q97:=lF Q15
 have Q98:=lF Q16
 have Q99:=lF Q22
 have Q100:=eqI_true Q23
 have Q101:=lF Q17
 have Q119:=lF Q32
 rcases bE (q42_49 A B L X) with Q33 | Q33
 ·skip
  have Q154:=eqI_true Q33
  rcases bE (clB (dtd (cI A) A.length (cR L) (cB B) X.length)) with Q155 | Q155
  ·skip
   exact absurd (clE_len hz (eqI_true Q33)) (by omega)
  ·skip
   rcases bE (ltI 100 ((m + 1:Nat):Int)) with Q102 | Q102
   ·skip
    have Q156:=lT Q102
    exact absurd (clE_len hz (eqI_true Q33)) (by omega)
   ·skip
    have Q156:=lF Q102
    rcases bE (q42_31 A B L W X m) with Q88 | Q88
    ·skip
     have Q157:=eqI_true Q88
     have hzy:=eqI_true Q88
     rcases bE (clB (dtd (cI A) A.length (cR L) (cB B) (m + 1))) with Q158 | Q158
     ·skip
      exact absurd (clE_len hz (eqI_true Q33)) (by omega)
     ·skip
      rcases bE (q42_12 A B L W X m) with Q159 | Q159
      ·skip
       exact absurd (clE_len hz (eqI_true Q33)) (by omega)
      ·skip
       exact absurd (clE_len hz (eqI_true Q33)) (by omega)
    ·skip
     have Q157:=eqI_false Q88
     exact absurd (clE_len hz (eqI_true Q33)) (by omega)
 ·skip
  have Q154:=eqI_false Q33
  exact gL isR_e (gT cm (known_zs hw) 200 (T':=⟨[(6,(.v (.bool .true)))],[],13,[]⟩) (e:=.ret) (ps:=[ltI 14 A.length=false,false=false,false=false,false=false,ltI 14 L.length=false,false=false,false=false,false=false,ltI 14 B.length=false,false=false,false=false,false=false,(!ltI 100 X.length)=true,true=true,IsLampK 1 2 1 1 (cI A) A.length (cR L) L.length (cB B) B.length (cI X) X.length,true=true,eqI (q42_51 A B L X) 0=false,false=false,false=false,(!false)=true,true=true,true=true,true=true]) [.go,.go,.go,.go,.go,.go,.go,.go,.go,.go,.go,.b false,.go,.b false,.go,.b false,.go,.b false,.go,.go,.go,.b false,.go,.b false,.go,.b false,.go,.b false,.go,.go,.go,.b false,.go,.b false,.go,.b false,.go,.b false,.go,.go,.go,.go,.go,.b true,.go,.b true,.b true,.go,.go,.go,.b false,.b false,.b false,.go,.go,.go,.go,.b true,.b true,.b true,.go,.b true,.go] (by kernel_rfl) (by kernel_rfl) ⟨Q14,rfl,rfl,rfl,Q15,rfl,rfl,rfl,Q16,rfl,rfl,rfl,(by rw [Q17]; rfl),rfl,⟨rfl,rfl,rfl,rfl,A,L,B,X,rfl,rfl,rfl,rfl,rfl,rfl,rfl,rfl⟩,rfl,Q33,rfl,rfl,rfl,rfl,rfl,rfl,trivial⟩ rfl) (Hd.en_eq (r:=(.bool .true)) (by rfl) (Hd.en_ret (v:=(.v (.bool .true))) (by kernel_rfl) rfl))
theorem zSp_50 (ya yl yf yw:Value) (A:List Int) (L:PR) (B:List Bool) (W:List Int) (yx:Value) (X:List Int) (t:Int) (m:Nat) (hw:Known pg (clsO zwO)) (ht:0≤t∧t≤255) (hz:ZK A L B W) (hd:¬ dtd (cI A) A.length (cR L) (cB B) W.length) (hX:X.length≤100) (hm:X.length=m + 1) (hlt:X.length < W.length) (Q14:(ltI 14 A.length)=false) (Q15:(ltI 14 L.length)=false) (Q16:(ltI 14 B.length)=false) (Q22:(ltI 100 W.length)=false) (Q23:(q42_48 A B L W)=true) (Q43:(q42_53 A B L W)=false) (Q17:(ltI 100 X.length)=false) (Q44:(q42_4 A B L W t)=true) (i:Nat) (hi1:(i + 1)≤(m + 1)) (hi2:True) (w:World) (hs:LN):Goes pg 170 zSgK47 ((q42_6 A B L W X i ya yf yl yw yx)) (BaseW.H w hs) (Hd.StepC pg 170 0 (fun i:{i:Nat // i≤(m + 1)∧True}=>Ev.fam0 (q42_8 A B L W X ya yf yl yw yx) (fun i=>(q42_6 A B L W X i ya yf yl yw yx)) i.1) (fun i:{i:Nat // i≤(m + 1)∧True}=>(m + 1) - i.1) zSgK39 w (OutH pg Try.f11 170 (.bool true) w) (⟨(i + 1),hi1,hi2⟩:{i:Nat // i≤(m + 1)∧True})):=by
 obtain ⟨hcl_A,hcl_L,hcl_B,hcl_W⟩:=hcZ42 A B L W
 have hcl_X:=cI_len X
 obtain ⟨hn,ha,he,hl,hw0⟩:=clE_zero hz
 have hW:=nw_le hz
 have hf:=fd_none hz hd
 have hr:=rdB_rng (B:=B) hz
 have he2:=he
 unfold eqP degI at he2
 have hA0:=ang_bd ha 0 (by omega)
 have hW1:1≤W.length:=by have:=deg_bd hn ha he 0 (by omega); omega
 have hk:=kt_bd (n:=W.length) ht hW1
 have Q96:=lF Q14
 have Q97:=lF Q15
 have Q98:=lF Q16
 have Q99:=lF Q22
 have Q100:=eqI_true Q23
 have Q101:=lF Q17
 rcases bE (ltI ((i + 1:Nat):Int) X.length) with Q32 | Q32
 ·skip
  have Q119:=lT Q32
  rcases bE (ltI ((i + 1:Nat):Int) W.length) with Q53 | Q53
  ·skip
   have Q160:=lT Q53
   have hwi:=hw0 (i + 1) (by omega)
   unfold wgtAt at hwi
   rcases bE (ltI (intAt (cI X) ((i + 1) * 1)) 0) with Q64 | Q64
   ·skip
    have Q161:=lT Q64
    exact gL isR_e (gT cm (known_zs hw) 200 (T':=q42_54) (e:=.ret) (ps:=[ltI ((i + 1:Nat):Int) X.length=true,true=true,true=true,true=true,true=true,ltI ((i + 1:Nat):Int) W.length=true,i + 1 < X.length,loadL pg (cI X) ((i + 1) * 1) 2=some (.v (.int .i64 (intAt (cI X) ((i + 1) * 1)))),ltI (intAt (cI X) ((i + 1) * 1)) 0=true,true=true,true=true,true=true,true=true,true=true]) [.go,.go,.go,.go,.go,.b true,.go,.b true,.go,.b true,.go,.b true,.go,.b true,.go,.go,.b true,.go,.go,.sym,.sym,.go,.go,.b true,.b true,.b true,.b true,.b true,.go,.b true,.go] (by kernel_rfl) (by kernel_rfl) ⟨Q32,rfl,rfl,rfl,rfl,Q53,(by omega),(cI_load (by omega) 2 (u2) rfl),Q64,rfl,rfl,rfl,rfl,rfl,trivial⟩ rfl) (Hd.en_so (by intro h; cases h) (by intro h; cases h) (Hd.en_eq (r:=(.bool .true)) (by rfl) (Hd.en_ret (v:=(.v (.bool .true))) (by kernel_rfl) rfl)))
   ·skip
    have Q161:=lF Q64
    rcases bE (ltI 1000 (intAt (cI X) ((i + 1) * 1))) with Q80 | Q80
    ·skip
     have Q162:=lT Q80
     exact gL isR_e (gT cm (known_zs hw) 200 (T':=q42_54) (e:=.ret) (ps:=[ltI ((i + 1:Nat):Int) X.length=true,true=true,true=true,true=true,true=true,ltI ((i + 1:Nat):Int) W.length=true,i + 1 < X.length,loadL pg (cI X) ((i + 1) * 1) 2=some (.v (.int .i64 (intAt (cI X) ((i + 1) * 1)))),ltI (intAt (cI X) ((i + 1) * 1)) 0=false,false=false,false=false,i + 1 < X.length,false=false,loadL pg (cI X) ((i + 1) * 1) 2=some (.v (.int .i64 (intAt (cI X) ((i + 1) * 1)))),false=false,ltI 1000 (intAt (cI X) ((i + 1) * 1))=true]) [.go,.go,.go,.go,.go,.b true,.go,.b true,.go,.b true,.go,.b true,.go,.b true,.go,.go,.b true,.go,.go,.sym,.sym,.go,.go,.b false,.go,.b false,.go,.b false,.sym,.b false,.sym,.b false,.go,.go,.b true,.go] (by kernel_rfl) (by kernel_rfl) ⟨Q32,rfl,rfl,rfl,rfl,Q53,(by omega),(cI_load (by omega) 2 (u2) rfl),Q64,rfl,rfl,(by omega),rfl,(cI_load (by omega) 2 (u2) rfl),rfl,Q80,trivial⟩ rfl) (Hd.en_so (by intro h; cases h) (by intro h; cases h) (Hd.en_eq (r:=(.bool .true)) (by rfl) (Hd.en_ret (v:=(.v (.bool .true))) (by kernel_rfl) rfl)))
    ·skip
     have Q162:=lF Q80
     exact gL isN_e (gC cm (known_zs hw) 200 (T':=(q42_5 A B L W X i ya yf yl yw yx)) (e:=.normal) (m:=13) (ps:=[ltI ((i + 1:Nat):Int) X.length=true,true=true,true=true,true=true,true=true,ltI ((i + 1:Nat):Int) W.length=true,i + 1 < X.length,loadL pg (cI X) ((i + 1) * 1) 2=some (.v (.int .i64 (intAt (cI X) ((i + 1) * 1)))),ltI (intAt (cI X) ((i + 1) * 1)) 0=false,false=false,false=false,i + 1 < X.length,false=false,loadL pg (cI X) ((i + 1) * 1) 2=some (.v (.int .i64 (intAt (cI X) ((i + 1) * 1)))),false=false,ltI 1000 (intAt (cI X) ((i + 1) * 1))=false,i + 1 < X.length,loadL pg (cI X) ((i + 1) * 1) 2=some (.v (.int .i64 (intAt (cI X) ((i + 1) * 1)))),i + 1 < W.length,loadL pg (cI W) ((i + 1) * 1) 2=some (.v (.int .i64 (intAt (cI W) ((i + 1) * 1)))),inR .i64 (intAt (cI X) ((i + 1) * 1) + intAt (cI W) ((i + 1) * 1)),((q42_46 W X i):List AV).length=(i + 1) * 1,i + 1 + 1≤1000000,inR .i64 (((i + 1:Nat):Int) + 1)]) [.go,.go,.go,.go,.go,.b true,.go,.b true,.go,.b true,.go,.b true,.go,.b true,.go,.go,.b true,.go,.go,.sym,.sym,.go,.go,.b false,.go,.b false,.go,.b false,.sym,.b false,.sym,.b false,.go,.go,.b false,.go,.go,.go,.go,.sym,.sym,.go,.go,.go,.sym,.sym,.go,.go,.sym,.go,.go,.go,.go,.go] [0,1,2,3,4,5,6,7,8,9,12] (q42_39 X i yx) [(q42_37 A B L W ya yf yl yw),(q42_29 A B L W),(q42_36 A B L X ya yf yl yx),(q42_38 A B L i ya yf yl),(q42_32 W X i)] (by kernel_rfl) (by kernel_rfl) ⟨Q32,rfl,rfl,rfl,rfl,Q53,(by omega),(cI_load (by omega) 2 (u2) rfl),Q64,rfl,rfl,(by omega),rfl,(cI_load (by omega) 2 (u2) rfl),rfl,Q80,(by omega),(cI_load (by omega) 2 (u2) rfl),(by omega),(cI_load (by omega) 2 (u2) rfl),(iRZ42 (by omega) (by omega)),(by show (cI _).length=_; rw [cI_len,tI_len]; omega),(by omega),(iRZ42 (by omega) (by omega)),trivial⟩ rfl rfl (by decide) rfl ⟨nr_xl (nrl_plain (cI_plain X)),nr_ptr rfl,nr_ptr rfl,nr_ptr rfl,nr_ptr rfl,nr_int (show ((((i + 1:Nat):Int) + 1):Int)=((((i + 1) + 1):Nat):Int) from by omega),trivial⟩ ⟨⟨by show 0 < 11; decide,nrb_cells (nrl_cons (nr_xl (nrl_plain (cI_plain A))) (nrl_cons (nr_xl (nrl_plain (cR_plain L))) (nrl_cons (nr_xl (nrl_plain (cB_plain B))) (nrl_cons (nr_xl (nrl_plain (cI_plain W))) (nrl_nil)))))⟩,⟨by show 7 < 11; decide,nrb_cells (nrl_cons (nr_v _) (nrl_cons (nr_v _) (nrl_nil)))⟩,⟨by show 8 < 11; decide,nrb_cells (nrl_cons (nr_xl (nrl_plain (cI_plain A))) (nrl_cons (nr_xl (nrl_plain (cR_plain L))) (nrl_cons (nr_xl (nrl_plain (cB_plain B))) (nrl_cons (nr_xl (nrl_plain (cI_plain X))) (nrl_nil)))))⟩,⟨by show 9 < 11; decide,nrb_cells (nrl_cons (nr_xl (nrl_plain (cI_plain A))) (nrl_cons (nr_xl (nrl_plain (cR_plain L))) (nrl_cons (nr_xl (nrl_plain (cB_plain B))) (nrl_cons (nr_slu rfl) (nrl_nil)))))⟩,⟨by show 10 < 11; decide,nrb_row (nrl_eq (show ((q42_44 W X i):List AV)=((q42_46 W X i) ++ [(.v (.int .i64 (intAt (cI X) ((i + 1) * 1) + intAt (cI W) ((i + 1) * 1))))]) from by first | exact (tI_one _).symm | exact (tI_app _ _).symm) (cI_plain _))⟩,trivial⟩) (Hd.en_on (⟨(i + 1) + 1,by omega,trivial⟩) (by show (m + 1) - ((i + 1) + 1) < (m + 1) - (i + 1); omega) rfl)
  ·skip
   have Q160:=lF Q53
   exfalso
   have h9:=lF Q53
   omega
 ·skip
  have Q119:=lF Q32
  obtain rfl:m=i:=by omega
  exact gL isX_e (gT cm (known_zs hw) 200 (T':=(q42_13 A B L W X m ya yf yl yx)) (e:=.exit 0) (ps:=[ltI (((m) + 1:Nat):Int) X.length=false,false=false,false=false,false=false,false=false,false=false]) [.go,.go,.go,.go,.go,.b false,.b false,.b false,.b false,.b false,.go,.b false] (by kernel_rfl) (by kernel_rfl) ⟨Q32,rfl,rfl,rfl,rfl,rfl,trivial⟩ rfl) (Hd.en_sx (zSp_52 ya yl yf yw A L B W yx X t m hw ht hz hd hX hm hlt Q14 Q15 Q16 Q22 Q23 Q43 Q17 Q44 hi2  Q32 w hs))
theorem zSp_46 (ya yl yf yw:Value) (A:List Int) (L:PR) (B:List Bool) (W:List Int) (yx:Value) (X:List Int) (t:Int) (m:Nat) (hw:Known pg (clsO zwO)) (ht:0≤t∧t≤255) (hz:ZK A L B W) (hd:¬ dtd (cI A) A.length (cR L) (cB B) W.length) (hX:X.length≤100) (hm:X.length=m + 1) (hlt:X.length < W.length) (Q14:(ltI 14 A.length)=false) (Q15:(ltI 14 L.length)=false) (Q16:(ltI 14 B.length)=false) (Q22:(ltI 100 W.length)=false) (Q23:(q42_48 A B L W)=true) (Q43:(q42_53 A B L W)=false) (Q17:(ltI 100 X.length)=false) (Q44:(q42_4 A B L W t)=true) (w:World) (hs:LN):Goes pg 170 zSgK42 ((q42_9 A B L W X ya yf yl yw yx)) (BaseW.H w hs) (Hd.AfterN pg 170 zSgK39 w (OutH pg Try.f11 170 (.bool true) w)):=by
 obtain ⟨hcl_A,hcl_L,hcl_B,hcl_W⟩:=hcZ42 A B L W
 have hcl_X:=cI_len X
 obtain ⟨hn,ha,he,hl,hw0⟩:=clE_zero hz
 have hW:=nw_le hz
 have hf:=fd_none hz hd
 have hr:=rdB_rng (B:=B) hz
 have he2:=he
 unfold eqP degI at he2
 have hA0:=ang_bd ha 0 (by omega)
 have hW1:1≤W.length:=by have:=deg_bd hn ha he 0 (by omega); omega
 have hk:=kt_bd (n:=W.length) ht hW1
 have Q96:=lF Q14
 have Q97:=lF Q15
 have Q98:=lF Q16
 have Q99:=lF Q22
 have Q100:=eqI_true Q23
 have Q101:=lF Q17
 exact Hd.goes_loopA (id:=0) (by kernel_rfl) (by kernel_rfl) (fun i:{i:Nat // i≤(m + 1)∧True}=>Ev.fam0 (q42_8 A B L W X ya yf yl yw yx) (fun i=>(q42_6 A B L W X i ya yf yl yw yx)) i.1) (fun i:{i:Nat // i≤(m + 1)∧True}=>(m + 1) - i.1) (fun i hs=>match i with | ⟨0,h1,h2⟩=>zSp_48 ya yl yf yw A L B W yx X t m hw ht hz hd hX hm hlt Q14 Q15 Q16 Q22 Q23 Q43 Q17 Q44 h1 h2 w hs | ⟨j + 1,h1,h2⟩=>zSp_50 ya yl yf yw A L B W yx X t m hw ht hz hd hX hm hlt Q14 Q15 Q16 Q22 Q23 Q43 Q17 Q44 j h1 h2 w hs) ⟨0,Nat.zero_le _,trivial⟩ hs
theorem zSp_44 (ya yl yf yw:Value) (A:List Int) (L:PR) (B:List Bool) (W:List Int) (yx:Value) (X:List Int) (t:Int) (m:Nat) (hw:Known pg (clsO zwO)) (ht:0≤t∧t≤255) (hz:ZK A L B W) (hd:¬ dtd (cI A) A.length (cR L) (cB B) W.length) (hX:X.length≤100) (hm:X.length=m + 1) (hlt:X.length < W.length) (Q14:(ltI 14 A.length)=false) (Q15:(ltI 14 L.length)=false) (Q16:(ltI 14 B.length)=false) (Q22:(ltI 100 W.length)=false) (Q23:(q42_48 A B L W)=true) (Q43:(q42_53 A B L W)=false) (Q17:(ltI 100 X.length)=false) (Q44:(q42_4 A B L W t)=true) (w:World) (hs:LN):Goes pg 170 zSgK42 ((q42_9 A B L W X ya yf yl yw yx)) (BaseW.H w hs) (Hd.AfterN pg 170 zSgK39 w (OutH pg Try.f11 170 (.bool true) w)):=by
 exact zSp_46 ya yl yf yw A L B W yx X t m hw ht hz hd hX hm hlt Q14 Q15 Q16 Q22 Q23 Q43 Q17 Q44 w hs
theorem zSq_48 (ya yl yf yw:Value) (A:List Int) (L:PR) (B:List Bool) (W:List Int) (yx:Value) (X:List Int) (t:Int) (m:Nat) (hw:Known pg (clsO zwO)) (ht:0≤t∧t≤255) (hz:ZK A L B W) (hd:¬ dtd (cI A) A.length (cR L) (cB B) W.length) (hX:X.length≤100) (hm:W.length=m + 1) (hlt:W.length < X.length) (Q18:(ltI 14 A.length)=false) (Q19:(ltI 14 L.length)=false) (Q20:(ltI 14 B.length)=false) (Q24:(ltI 100 W.length)=false) (Q25:(q42_48 A B L W)=true) (Q45:(q42_53 A B L W)=false) (Q21:(ltI 100 X.length)=false) (Q46:(q42_4 A B L W t)=true) (hi1:0≤(m + 1)) (hi2:True) (w:World) (hs:LN):Goes pg 170 zSgK47 ((q42_8 A B L W X ya yf yl yw yx)) (BaseW.H w hs) (Hd.StepC pg 170 0 (fun i:{i:Nat // i≤(m + 1)∧True}=>Ev.fam0 (q42_8 A B L W X ya yf yl yw yx) (fun i=>(q42_6 A B L W X i ya yf yl yw yx)) i.1) (fun i:{i:Nat // i≤(m + 1)∧True}=>(m + 1) - i.1) zSgK39 w (OutH pg Try.f11 170 (.bool true) w) (⟨0,hi1,hi2⟩:{i:Nat // i≤(m + 1)∧True})):=by
 obtain ⟨hcl_A,hcl_L,hcl_B,hcl_W⟩:=hcZ42 A B L W
 have hcl_X:=cI_len X
 obtain ⟨hn,ha,he,hl,hw0⟩:=clE_zero hz
 have hW:=nw_le hz
 have hf:=fd_none hz hd
 have hr:=rdB_rng (B:=B) hz
 have he2:=he
 unfold eqP degI at he2
 have hA0:=ang_bd ha 0 (by omega)
 have hW1:1≤W.length:=by have:=deg_bd hn ha he 0 (by omega); omega
 have hk:=kt_bd (n:=W.length) ht hW1
 have Q103:=lF Q18
 have Q104:=lF Q19
 have Q105:=lF Q20
 have Q106:=lF Q24
 have Q107:=eqI_true Q25
 have Q108:=lF Q21
 rcases bE (ltI 0 X.length) with Q54 | Q54
 ·skip
  have Q163:=lT Q54
  rcases bE (ltI 0 W.length) with Q65 | Q65
  ·skip
   have Q164:=lT Q65
   have hwi:=hw0 (0) (by omega)
   unfold wgtAt at hwi
   rcases bE (ltI (intAt (cI X) (0 * 1)) 0) with Q66 | Q66
   ·skip
    have Q165:=lT Q66
    exact gL isR_e (gT cm (known_zs hw) 200 (T':=q42_55) (e:=.ret) (ps:=[ltI 0 X.length=true,true=true,true=true,true=true,true=true,ltI 0 W.length=true,0 < X.length,loadL pg (cI X) (0 * 1) 2=some (.v (.int .i64 (intAt (cI X) (0 * 1)))),ltI (intAt (cI X) (0 * 1)) 0=true,true=true,true=true,true=true,true=true,true=true]) [.go,.go,.go,.go,.go,.b true,.go,.b true,.go,.b true,.go,.b true,.go,.b true,.go,.go,.b true,.go,.go,.sym,.sym,.go,.go,.b true,.b true,.b true,.b true,.b true,.go,.b true,.go] (by kernel_rfl) (by kernel_rfl) ⟨Q54,rfl,rfl,rfl,rfl,Q65,(by omega),(cI_load (by omega) 2 (u2) rfl),Q66,rfl,rfl,rfl,rfl,rfl,trivial⟩ rfl) (Hd.en_so (by intro h; cases h) (by intro h; cases h) (Hd.en_eq (r:=(.bool .true)) (by rfl) (Hd.en_ret (v:=(.v (.bool .true))) (by kernel_rfl) rfl)))
   ·skip
    have Q165:=lF Q66
    rcases bE (ltI 1000 (intAt (cI X) (0 * 1))) with Q81 | Q81
    ·skip
     have Q166:=lT Q81
     exact gL isR_e (gT cm (known_zs hw) 200 (T':=q42_55) (e:=.ret) (ps:=[ltI 0 X.length=true,true=true,true=true,true=true,true=true,ltI 0 W.length=true,0 < X.length,loadL pg (cI X) (0 * 1) 2=some (.v (.int .i64 (intAt (cI X) (0 * 1)))),ltI (intAt (cI X) (0 * 1)) 0=false,false=false,false=false,0 < X.length,false=false,loadL pg (cI X) (0 * 1) 2=some (.v (.int .i64 (intAt (cI X) (0 * 1)))),false=false,ltI 1000 (intAt (cI X) (0 * 1))=true]) [.go,.go,.go,.go,.go,.b true,.go,.b true,.go,.b true,.go,.b true,.go,.b true,.go,.go,.b true,.go,.go,.sym,.sym,.go,.go,.b false,.go,.b false,.go,.b false,.sym,.b false,.sym,.b false,.go,.go,.b true,.go] (by kernel_rfl) (by kernel_rfl) ⟨Q54,rfl,rfl,rfl,rfl,Q65,(by omega),(cI_load (by omega) 2 (u2) rfl),Q66,rfl,rfl,(by omega),rfl,(cI_load (by omega) 2 (u2) rfl),rfl,Q81,trivial⟩ rfl) (Hd.en_so (by intro h; cases h) (by intro h; cases h) (Hd.en_eq (r:=(.bool .true)) (by rfl) (Hd.en_ret (v:=(.v (.bool .true))) (by kernel_rfl) rfl)))
    ·skip
     have Q166:=lF Q81
     exact gL isN_e (gC cm (known_zs hw) 200 (T':=(q42_7 A B L W X ya yf yl yw yx)) (e:=.normal) (m:=12) (ps:=[ltI 0 X.length=true,true=true,true=true,true=true,true=true,ltI 0 W.length=true,0 < X.length,loadL pg (cI X) (0 * 1) 2=some (.v (.int .i64 (intAt (cI X) (0 * 1)))),ltI (intAt (cI X) (0 * 1)) 0=false,false=false,false=false,0 < X.length,false=false,loadL pg (cI X) (0 * 1) 2=some (.v (.int .i64 (intAt (cI X) (0 * 1)))),false=false,ltI 1000 (intAt (cI X) (0 * 1))=false,0 < X.length,loadL pg (cI X) (0 * 1) 2=some (.v (.int .i64 (intAt (cI X) (0 * 1)))),0 < W.length,loadL pg (cI W) (0 * 1) 2=some (.v (.int .i64 (intAt (cI W) (0 * 1)))),inR .i64 (intAt (cI X) (0 * 1) + intAt (cI W) (0 * 1)),inR .i64 (((0:Nat):Int) + 1)]) [.go,.go,.go,.go,.go,.b true,.go,.b true,.go,.b true,.go,.b true,.go,.b true,.go,.go,.b true,.go,.go,.sym,.sym,.go,.go,.b false,.go,.b false,.go,.b false,.sym,.b false,.sym,.b false,.go,.go,.b false,.go,.go,.go,.go,.sym,.sym,.go,.go,.go,.sym,.sym,.go,.go,.go,.go,.go,.go,.go,.go] [0,1,2,3,4,5,6,7,8,9,11] (q42_42 X yx) [(q42_37 A B L W ya yf yl yw),(q42_29 A B L W),(q42_36 A B L X ya yf yl yx),(q42_40 A B L ya yf yl),(q42_45 W X)] (by kernel_rfl) (by kernel_rfl) ⟨Q54,rfl,rfl,rfl,rfl,Q65,(by omega),(cI_load (by omega) 2 (u2) rfl),Q66,rfl,rfl,(by omega),rfl,(cI_load (by omega) 2 (u2) rfl),rfl,Q81,(by omega),(cI_load (by omega) 2 (u2) rfl),(by omega),(cI_load (by omega) 2 (u2) rfl),(iRZ42 (by omega) (by omega)),(iRZ42 (by omega) (by omega)),trivial⟩ rfl rfl (by decide) rfl ⟨nr_xl (nrl_plain (cI_plain X)),nr_ptr rfl,nr_ptr rfl,nr_ptr rfl,nr_ptr rfl,nr_int (show (1:Int)=(((0 + 1):Nat):Int) from by omega),trivial⟩ ⟨⟨by show 0 < 11; decide,nrb_cells (nrl_cons (nr_xl (nrl_plain (cI_plain A))) (nrl_cons (nr_xl (nrl_plain (cR_plain L))) (nrl_cons (nr_xl (nrl_plain (cB_plain B))) (nrl_cons (nr_xl (nrl_plain (cI_plain W))) (nrl_nil)))))⟩,⟨by show 7 < 11; decide,nrb_cells (nrl_cons (nr_v _) (nrl_cons (nr_v _) (nrl_nil)))⟩,⟨by show 8 < 11; decide,nrb_cells (nrl_cons (nr_xl (nrl_plain (cI_plain A))) (nrl_cons (nr_xl (nrl_plain (cR_plain L))) (nrl_cons (nr_xl (nrl_plain (cB_plain B))) (nrl_cons (nr_xl (nrl_plain (cI_plain X))) (nrl_nil)))))⟩,⟨by show 9 < 11; decide,nrb_cells (nrl_cons (nr_xl (nrl_plain (cI_plain A))) (nrl_cons (nr_xl (nrl_plain (cR_plain L))) (nrl_cons (nr_xl (nrl_plain (cB_plain B))) (nrl_cons (nr_slu rfl) (nrl_nil)))))⟩,⟨by show 10 < 11; decide,nrb_row (nrl_eq (show ((q42_47 W X):List AV)=[(.v (.int .i64 (intAt (cI X) (0 * 1) + intAt (cI W) (0 * 1))))] from by first | exact (tI_one _).symm | exact (tI_app _ _).symm) (cI_plain _))⟩,trivial⟩) (Hd.en_on (⟨0 + 1,by omega,trivial⟩) (by show (m + 1) - (0 + 1) < (m + 1) - 0; omega) rfl)
  ·skip
   have Q164:=lF Q65
   exfalso; omega
 ·skip
  have Q163:=lF Q54
  exfalso
  have h9:=lF Q54
  omega
theorem zSq_52 (ya yl yf yw:Value) (A:List Int) (L:PR) (B:List Bool) (W:List Int) (yx:Value) (X:List Int) (t:Int) (m:Nat) (hw:Known pg (clsO zwO)) (ht:0≤t∧t≤255) (hz:ZK A L B W) (hd:¬ dtd (cI A) A.length (cR L) (cB B) W.length) (hX:X.length≤100) (hm:W.length=m + 1) (hlt:W.length < X.length) (Q18:(ltI 14 A.length)=false) (Q19:(ltI 14 L.length)=false) (Q20:(ltI 14 B.length)=false) (Q24:(ltI 100 W.length)=false) (Q25:(q42_48 A B L W)=true) (Q45:(q42_53 A B L W)=false) (Q21:(ltI 100 X.length)=false) (Q46:(q42_4 A B L W t)=true) (h0b:True) (Q26:(ltI (((m) + 1:Nat):Int) X.length)=true) (Q34:(ltI (((m) + 1:Nat):Int) W.length)=false) (w:World) (hs:LN):Goes pg 170 zSgK39 ((q42_13 A B L W X m ya yf yl yx)) (BaseW.H w hs) (OutH pg Try.f11 170 (.bool true) w):=by
 obtain ⟨hcl_A,hcl_L,hcl_B,hcl_W⟩:=hcZ42 A B L W
 have hcl_X:=cI_len X
 obtain ⟨hn,ha,he,hl,hw0⟩:=clE_zero hz
 have hW:=nw_le hz
 have hf:=fd_none hz hd
 have hr:=rdB_rng (B:=B) hz
 have he2:=he
 unfold eqP degI at he2
 have hA0:=ang_bd ha 0 (by omega)
 have hW1:1≤W.length:=by have:=deg_bd hn ha he 0 (by omega); omega
 have hk:=kt_bd (n:=W.length) ht hW1
 have Q103:=lF Q18
 have Q104:=lF Q19
 have Q105:=lF Q20
 have Q106:=lF Q24
 have Q107:=eqI_true Q25
 have Q108:=lF Q21
 have Q120:=lT Q26
 have Q121:=lF Q34
 rcases bE (q42_49 A B L X) with Q35 | Q35
 ·skip
  have Q167:=eqI_true Q35
  rcases bE (clB (dtd (cI A) A.length (cR L) (cB B) X.length)) with Q168 | Q168
  ·skip
   exact absurd (clE_len hz (eqI_true Q35)) (by omega)
  ·skip
   rcases bE (ltI 100 ((m + 1:Nat):Int)) with Q109 | Q109
   ·skip
    have Q169:=lT Q109
    exact absurd (clE_len hz (eqI_true Q35)) (by omega)
   ·skip
    have Q169:=lF Q109
    rcases bE (q42_31 A B L W X m) with Q89 | Q89
    ·skip
     have Q170:=eqI_true Q89
     have hzy:=eqI_true Q89
     rcases bE (clB (dtd (cI A) A.length (cR L) (cB B) (m + 1))) with Q171 | Q171
     ·skip
      exact absurd (clE_len hz (eqI_true Q35)) (by omega)
     ·skip
      rcases bE (q42_12 A B L W X m) with Q172 | Q172
      ·skip
       exact absurd (clE_len hz (eqI_true Q35)) (by omega)
      ·skip
       exact absurd (clE_len hz (eqI_true Q35)) (by omega)
    ·skip
     have Q170:=eqI_false Q89
     exact absurd (clE_len hz (eqI_true Q35)) (by omega)
 ·skip
  have Q167:=eqI_false Q35
  exact gL isR_e (gT cm (known_zs hw) 200 (T':=⟨[(6,(.v (.bool .true)))],[],13,[]⟩) (e:=.ret) (ps:=[ltI 14 A.length=false,false=false,false=false,false=false,ltI 14 L.length=false,false=false,false=false,false=false,ltI 14 B.length=false,false=false,false=false,false=false,(!ltI 100 X.length)=true,true=true,IsLampK 1 2 1 1 (cI A) A.length (cR L) L.length (cB B) B.length (cI X) X.length,true=true,eqI (q42_51 A B L X) 0=false,false=false,false=false,(!false)=true,true=true,true=true,true=true]) [.go,.go,.go,.go,.go,.go,.go,.go,.go,.go,.go,.b false,.go,.b false,.go,.b false,.go,.b false,.go,.go,.go,.b false,.go,.b false,.go,.b false,.go,.b false,.go,.go,.go,.b false,.go,.b false,.go,.b false,.go,.b false,.go,.go,.go,.go,.go,.b true,.go,.b true,.b true,.go,.go,.go,.b false,.b false,.b false,.go,.go,.go,.go,.b true,.b true,.b true,.go,.b true,.go] (by kernel_rfl) (by kernel_rfl) ⟨Q18,rfl,rfl,rfl,Q19,rfl,rfl,rfl,Q20,rfl,rfl,rfl,(by rw [Q21]; rfl),rfl,⟨rfl,rfl,rfl,rfl,A,L,B,X,rfl,rfl,rfl,rfl,rfl,rfl,rfl,rfl⟩,rfl,Q35,rfl,rfl,rfl,rfl,rfl,rfl,trivial⟩ rfl) (Hd.en_eq (r:=(.bool .true)) (by rfl) (Hd.en_ret (v:=(.v (.bool .true))) (by kernel_rfl) rfl))
theorem zSq_50 (ya yl yf yw:Value) (A:List Int) (L:PR) (B:List Bool) (W:List Int) (yx:Value) (X:List Int) (t:Int) (m:Nat) (hw:Known pg (clsO zwO)) (ht:0≤t∧t≤255) (hz:ZK A L B W) (hd:¬ dtd (cI A) A.length (cR L) (cB B) W.length) (hX:X.length≤100) (hm:W.length=m + 1) (hlt:W.length < X.length) (Q18:(ltI 14 A.length)=false) (Q19:(ltI 14 L.length)=false) (Q20:(ltI 14 B.length)=false) (Q24:(ltI 100 W.length)=false) (Q25:(q42_48 A B L W)=true) (Q45:(q42_53 A B L W)=false) (Q21:(ltI 100 X.length)=false) (Q46:(q42_4 A B L W t)=true) (i:Nat) (hi1:(i + 1)≤(m + 1)) (hi2:True) (w:World) (hs:LN):Goes pg 170 zSgK47 ((q42_6 A B L W X i ya yf yl yw yx)) (BaseW.H w hs) (Hd.StepC pg 170 0 (fun i:{i:Nat // i≤(m + 1)∧True}=>Ev.fam0 (q42_8 A B L W X ya yf yl yw yx) (fun i=>(q42_6 A B L W X i ya yf yl yw yx)) i.1) (fun i:{i:Nat // i≤(m + 1)∧True}=>(m + 1) - i.1) zSgK39 w (OutH pg Try.f11 170 (.bool true) w) (⟨(i + 1),hi1,hi2⟩:{i:Nat // i≤(m + 1)∧True})):=by
 obtain ⟨hcl_A,hcl_L,hcl_B,hcl_W⟩:=hcZ42 A B L W
 have hcl_X:=cI_len X
 obtain ⟨hn,ha,he,hl,hw0⟩:=clE_zero hz
 have hW:=nw_le hz
 have hf:=fd_none hz hd
 have hr:=rdB_rng (B:=B) hz
 have he2:=he
 unfold eqP degI at he2
 have hA0:=ang_bd ha 0 (by omega)
 have hW1:1≤W.length:=by have:=deg_bd hn ha he 0 (by omega); omega
 have hk:=kt_bd (n:=W.length) ht hW1
 have Q103:=lF Q18
 have Q104:=lF Q19
 have Q105:=lF Q20
 have Q106:=lF Q24
 have Q107:=eqI_true Q25
 have Q108:=lF Q21
 rcases bE (ltI ((i + 1:Nat):Int) X.length) with Q26 | Q26
 ·skip
  have Q120:=lT Q26
  rcases bE (ltI ((i + 1:Nat):Int) W.length) with Q34 | Q34
  ·skip
   have Q121:=lT Q34
   have hwi:=hw0 (i + 1) (by omega)
   unfold wgtAt at hwi
   rcases bE (ltI (intAt (cI X) ((i + 1) * 1)) 0) with Q67 | Q67
   ·skip
    have Q173:=lT Q67
    exact gL isR_e (gT cm (known_zs hw) 200 (T':=q42_54) (e:=.ret) (ps:=[ltI ((i + 1:Nat):Int) X.length=true,true=true,true=true,true=true,true=true,ltI ((i + 1:Nat):Int) W.length=true,i + 1 < X.length,loadL pg (cI X) ((i + 1) * 1) 2=some (.v (.int .i64 (intAt (cI X) ((i + 1) * 1)))),ltI (intAt (cI X) ((i + 1) * 1)) 0=true,true=true,true=true,true=true,true=true,true=true]) [.go,.go,.go,.go,.go,.b true,.go,.b true,.go,.b true,.go,.b true,.go,.b true,.go,.go,.b true,.go,.go,.sym,.sym,.go,.go,.b true,.b true,.b true,.b true,.b true,.go,.b true,.go] (by kernel_rfl) (by kernel_rfl) ⟨Q26,rfl,rfl,rfl,rfl,Q34,(by omega),(cI_load (by omega) 2 (u2) rfl),Q67,rfl,rfl,rfl,rfl,rfl,trivial⟩ rfl) (Hd.en_so (by intro h; cases h) (by intro h; cases h) (Hd.en_eq (r:=(.bool .true)) (by rfl) (Hd.en_ret (v:=(.v (.bool .true))) (by kernel_rfl) rfl)))
   ·skip
    have Q173:=lF Q67
    rcases bE (ltI 1000 (intAt (cI X) ((i + 1) * 1))) with Q82 | Q82
    ·skip
     have Q174:=lT Q82
     exact gL isR_e (gT cm (known_zs hw) 200 (T':=q42_54) (e:=.ret) (ps:=[ltI ((i + 1:Nat):Int) X.length=true,true=true,true=true,true=true,true=true,ltI ((i + 1:Nat):Int) W.length=true,i + 1 < X.length,loadL pg (cI X) ((i + 1) * 1) 2=some (.v (.int .i64 (intAt (cI X) ((i + 1) * 1)))),ltI (intAt (cI X) ((i + 1) * 1)) 0=false,false=false,false=false,i + 1 < X.length,false=false,loadL pg (cI X) ((i + 1) * 1) 2=some (.v (.int .i64 (intAt (cI X) ((i + 1) * 1)))),false=false,ltI 1000 (intAt (cI X) ((i + 1) * 1))=true]) [.go,.go,.go,.go,.go,.b true,.go,.b true,.go,.b true,.go,.b true,.go,.b true,.go,.go,.b true,.go,.go,.sym,.sym,.go,.go,.b false,.go,.b false,.go,.b false,.sym,.b false,.sym,.b false,.go,.go,.b true,.go] (by kernel_rfl) (by kernel_rfl) ⟨Q26,rfl,rfl,rfl,rfl,Q34,(by omega),(cI_load (by omega) 2 (u2) rfl),Q67,rfl,rfl,(by omega),rfl,(cI_load (by omega) 2 (u2) rfl),rfl,Q82,trivial⟩ rfl) (Hd.en_so (by intro h; cases h) (by intro h; cases h) (Hd.en_eq (r:=(.bool .true)) (by rfl) (Hd.en_ret (v:=(.v (.bool .true))) (by kernel_rfl) rfl)))
    ·skip
     have Q174:=lF Q82
     exact gL isN_e (gC cm (known_zs hw) 200 (T':=(q42_5 A B L W X i ya yf yl yw yx)) (e:=.normal) (m:=13) (ps:=[ltI ((i + 1:Nat):Int) X.length=true,true=true,true=true,true=true,true=true,ltI ((i + 1:Nat):Int) W.length=true,i + 1 < X.length,loadL pg (cI X) ((i + 1) * 1) 2=some (.v (.int .i64 (intAt (cI X) ((i + 1) * 1)))),ltI (intAt (cI X) ((i + 1) * 1)) 0=false,false=false,false=false,i + 1 < X.length,false=false,loadL pg (cI X) ((i + 1) * 1) 2=some (.v (.int .i64 (intAt (cI X) ((i + 1) * 1)))),false=false,ltI 1000 (intAt (cI X) ((i + 1) * 1))=false,i + 1 < X.length,loadL pg (cI X) ((i + 1) * 1) 2=some (.v (.int .i64 (intAt (cI X) ((i + 1) * 1)))),i + 1 < W.length,loadL pg (cI W) ((i + 1) * 1) 2=some (.v (.int .i64 (intAt (cI W) ((i + 1) * 1)))),inR .i64 (intAt (cI X) ((i + 1) * 1) + intAt (cI W) ((i + 1) * 1)),((q42_46 W X i):List AV).length=(i + 1) * 1,i + 1 + 1≤1000000,inR .i64 (((i + 1:Nat):Int) + 1)]) [.go,.go,.go,.go,.go,.b true,.go,.b true,.go,.b true,.go,.b true,.go,.b true,.go,.go,.b true,.go,.go,.sym,.sym,.go,.go,.b false,.go,.b false,.go,.b false,.sym,.b false,.sym,.b false,.go,.go,.b false,.go,.go,.go,.go,.sym,.sym,.go,.go,.go,.sym,.sym,.go,.go,.sym,.go,.go,.go,.go,.go] [0,1,2,3,4,5,6,7,8,9,12] (q42_39 X i yx) [(q42_37 A B L W ya yf yl yw),(q42_29 A B L W),(q42_36 A B L X ya yf yl yx),(q42_38 A B L i ya yf yl),(q42_32 W X i)] (by kernel_rfl) (by kernel_rfl) ⟨Q26,rfl,rfl,rfl,rfl,Q34,(by omega),(cI_load (by omega) 2 (u2) rfl),Q67,rfl,rfl,(by omega),rfl,(cI_load (by omega) 2 (u2) rfl),rfl,Q82,(by omega),(cI_load (by omega) 2 (u2) rfl),(by omega),(cI_load (by omega) 2 (u2) rfl),(iRZ42 (by omega) (by omega)),(by show (cI _).length=_; rw [cI_len,tI_len]; omega),(by omega),(iRZ42 (by omega) (by omega)),trivial⟩ rfl rfl (by decide) rfl ⟨nr_xl (nrl_plain (cI_plain X)),nr_ptr rfl,nr_ptr rfl,nr_ptr rfl,nr_ptr rfl,nr_int (show ((((i + 1:Nat):Int) + 1):Int)=((((i + 1) + 1):Nat):Int) from by omega),trivial⟩ ⟨⟨by show 0 < 11; decide,nrb_cells (nrl_cons (nr_xl (nrl_plain (cI_plain A))) (nrl_cons (nr_xl (nrl_plain (cR_plain L))) (nrl_cons (nr_xl (nrl_plain (cB_plain B))) (nrl_cons (nr_xl (nrl_plain (cI_plain W))) (nrl_nil)))))⟩,⟨by show 7 < 11; decide,nrb_cells (nrl_cons (nr_v _) (nrl_cons (nr_v _) (nrl_nil)))⟩,⟨by show 8 < 11; decide,nrb_cells (nrl_cons (nr_xl (nrl_plain (cI_plain A))) (nrl_cons (nr_xl (nrl_plain (cR_plain L))) (nrl_cons (nr_xl (nrl_plain (cB_plain B))) (nrl_cons (nr_xl (nrl_plain (cI_plain X))) (nrl_nil)))))⟩,⟨by show 9 < 11; decide,nrb_cells (nrl_cons (nr_xl (nrl_plain (cI_plain A))) (nrl_cons (nr_xl (nrl_plain (cR_plain L))) (nrl_cons (nr_xl (nrl_plain (cB_plain B))) (nrl_cons (nr_slu rfl) (nrl_nil)))))⟩,⟨by show 10 < 11; decide,nrb_row (nrl_eq (show ((q42_44 W X i):List AV)=((q42_46 W X i) ++ [(.v (.int .i64 (intAt (cI X) ((i + 1) * 1) + intAt (cI W) ((i + 1) * 1))))]) from by first | exact (tI_one _).symm | exact (tI_app _ _).symm) (cI_plain _))⟩,trivial⟩) (Hd.en_on (⟨(i + 1) + 1,by omega,trivial⟩) (by show (m + 1) - ((i + 1) + 1) < (m + 1) - (i + 1); omega) rfl)
  ·skip
   have Q121:=lF Q34
   obtain rfl:m=i:=by omega
   exact gL isX_e (gT cm (known_zs hw) 200 (T':=(q42_13 A B L W X m ya yf yl yx)) (e:=.exit 0) (ps:=[ltI (((m) + 1:Nat):Int) X.length=true,true=true,true=true,true=true,true=true,ltI (((m) + 1:Nat):Int) W.length=false]) [.go,.go,.go,.go,.go,.b true,.go,.b true,.go,.b true,.go,.b true,.go,.b true,.go,.go,.b false] (by kernel_rfl) (by kernel_rfl) ⟨Q26,rfl,rfl,rfl,rfl,Q34,trivial⟩ rfl) (Hd.en_sx (zSq_52 ya yl yf yw A L B W yx X t m hw ht hz hd hX hm hlt Q18 Q19 Q20 Q24 Q25 Q45 Q21 Q46 hi2  Q26 Q34 w hs))
 ·skip
  have Q120:=lF Q26
  exfalso
  have h9:=lF Q26
  omega
theorem zSq_46 (ya yl yf yw:Value) (A:List Int) (L:PR) (B:List Bool) (W:List Int) (yx:Value) (X:List Int) (t:Int) (m:Nat) (hw:Known pg (clsO zwO)) (ht:0≤t∧t≤255) (hz:ZK A L B W) (hd:¬ dtd (cI A) A.length (cR L) (cB B) W.length) (hX:X.length≤100) (hm:W.length=m + 1) (hlt:W.length < X.length) (Q18:(ltI 14 A.length)=false) (Q19:(ltI 14 L.length)=false) (Q20:(ltI 14 B.length)=false) (Q24:(ltI 100 W.length)=false) (Q25:(q42_48 A B L W)=true) (Q45:(q42_53 A B L W)=false) (Q21:(ltI 100 X.length)=false) (Q46:(q42_4 A B L W t)=true) (w:World) (hs:LN):Goes pg 170 zSgK42 ((q42_9 A B L W X ya yf yl yw yx)) (BaseW.H w hs) (Hd.AfterN pg 170 zSgK39 w (OutH pg Try.f11 170 (.bool true) w)):=by
 obtain ⟨hcl_A,hcl_L,hcl_B,hcl_W⟩:=hcZ42 A B L W
 have hcl_X:=cI_len X
 obtain ⟨hn,ha,he,hl,hw0⟩:=clE_zero hz
 have hW:=nw_le hz
 have hf:=fd_none hz hd
 have hr:=rdB_rng (B:=B) hz
 have he2:=he
 unfold eqP degI at he2
 have hA0:=ang_bd ha 0 (by omega)
 have hW1:1≤W.length:=by have:=deg_bd hn ha he 0 (by omega); omega
 have hk:=kt_bd (n:=W.length) ht hW1
 have Q103:=lF Q18
 have Q104:=lF Q19
 have Q105:=lF Q20
 have Q106:=lF Q24
 have Q107:=eqI_true Q25
 have Q108:=lF Q21
 exact Hd.goes_loopA (id:=0) (by kernel_rfl) (by kernel_rfl) (fun i:{i:Nat // i≤(m + 1)∧True}=>Ev.fam0 (q42_8 A B L W X ya yf yl yw yx) (fun i=>(q42_6 A B L W X i ya yf yl yw yx)) i.1) (fun i:{i:Nat // i≤(m + 1)∧True}=>(m + 1) - i.1) (fun i hs=>match i with | ⟨0,h1,h2⟩=>zSq_48 ya yl yf yw A L B W yx X t m hw ht hz hd hX hm hlt Q18 Q19 Q20 Q24 Q25 Q45 Q21 Q46 h1 h2 w hs | ⟨j + 1,h1,h2⟩=>zSq_50 ya yl yf yw A L B W yx X t m hw ht hz hd hX hm hlt Q18 Q19 Q20 Q24 Q25 Q45 Q21 Q46 j h1 h2 w hs) ⟨0,Nat.zero_le _,trivial⟩ hs
theorem zSq_44 (ya yl yf yw:Value) (A:List Int) (L:PR) (B:List Bool) (W:List Int) (yx:Value) (X:List Int) (t:Int) (m:Nat) (hw:Known pg (clsO zwO)) (ht:0≤t∧t≤255) (hz:ZK A L B W) (hd:¬ dtd (cI A) A.length (cR L) (cB B) W.length) (hX:X.length≤100) (hm:W.length=m + 1) (hlt:W.length < X.length) (Q18:(ltI 14 A.length)=false) (Q19:(ltI 14 L.length)=false) (Q20:(ltI 14 B.length)=false) (Q24:(ltI 100 W.length)=false) (Q25:(q42_48 A B L W)=true) (Q45:(q42_53 A B L W)=false) (Q21:(ltI 100 X.length)=false) (Q46:(q42_4 A B L W t)=true) (w:World) (hs:LN):Goes pg 170 zSgK42 ((q42_9 A B L W X ya yf yl yw yx)) (BaseW.H w hs) (Hd.AfterN pg 170 zSgK39 w (OutH pg Try.f11 170 (.bool true) w)):=by
 exact zSq_46 ya yl yf yw A L B W yx X t m hw ht hz hd hX hm hlt Q18 Q19 Q20 Q24 Q25 Q45 Q21 Q46 w hs
theorem zSs_48 (ya yl yf yw:Value) (A:List Int) (L:PR) (B:List Bool) (W:List Int) (yx:Value) (X:List Int) (t:Int) (m:Nat) (hw:Known pg (clsO zwO)) (ht:0≤t∧t≤255) (hz:ZK A L B W) (hd:¬ dtd (cI A) A.length (cR L) (cB B) W.length) (hX:X.length≤100) (hm:W.length=m + 1) (hxm:X.length=m + 1) (Q0:(ltI 14 A.length)=false) (Q1:(ltI 14 L.length)=false) (Q2:(ltI 14 B.length)=false) (Q4:(ltI 100 W.length)=false) (Q5:(q42_48 A B L W)=true) (Q6:(q42_53 A B L W)=false) (Q3:(ltI 100 X.length)=false) (Q7:(q42_4 A B L W t)=true) (hi1:0≤(m + 1)) (hi2:True) (w:World) (hs:LN):Goes pg 170 zSgK47 ((q42_8 A B L W X ya yf yl yw yx)) (BaseW.H w hs) (Hd.StepC pg 170 0 (fun i:{i:Nat // i≤(m + 1)∧True}=>Ev.fam0 (q42_8 A B L W X ya yf yl yw yx) (fun i=>(q42_6 A B L W X i ya yf yl yw yx)) i.1) (fun i:{i:Nat // i≤(m + 1)∧True}=>(m + 1) - i.1) zSgK39 w (OutH pg Try.f11 170 (.bool true) w) (⟨0,hi1,hi2⟩:{i:Nat // i≤(m + 1)∧True})):=by
 obtain ⟨hcl_A,hcl_L,hcl_B,hcl_W⟩:=hcZ42 A B L W
 have hcl_X:=cI_len X
 obtain ⟨hn,ha,he,hl,hw0⟩:=clE_zero hz
 have hW:=nw_le hz
 have hf:=fd_none hz hd
 have hr:=rdB_rng (B:=B) hz
 have he2:=he
 unfold eqP degI at he2
 have hA0:=ang_bd ha 0 (by omega)
 have hW1:1≤W.length:=by have:=deg_bd hn ha he 0 (by omega); omega
 have hk:=kt_bd (n:=W.length) ht hW1
 have Q8:=lF Q0
 have Q9:=lF Q1
 have Q10:=lF Q2
 have Q11:=lF Q4
 have Q12:=eqI_true Q5
 have Q13:=lF Q3
 rcases bE (ltI 0 X.length) with Q68 | Q68
 ·skip
  have Q175:=lT Q68
  rcases bE (ltI 0 W.length) with Q55 | Q55
  ·skip
   have Q176:=lT Q55
   have hwi:=hw0 (0) (by omega)
   unfold wgtAt at hwi
   rcases bE (ltI (intAt (cI X) (0 * 1)) 0) with Q69 | Q69
   ·skip
    have Q177:=lT Q69
    exact gL isR_e (gT cm (known_zs hw) 200 (T':=q42_55) (e:=.ret) (ps:=[ltI 0 X.length=true,true=true,true=true,true=true,true=true,ltI 0 W.length=true,0 < X.length,loadL pg (cI X) (0 * 1) 2=some (.v (.int .i64 (intAt (cI X) (0 * 1)))),ltI (intAt (cI X) (0 * 1)) 0=true,true=true,true=true,true=true,true=true,true=true]) [.go,.go,.go,.go,.go,.b true,.go,.b true,.go,.b true,.go,.b true,.go,.b true,.go,.go,.b true,.go,.go,.sym,.sym,.go,.go,.b true,.b true,.b true,.b true,.b true,.go,.b true,.go] (by kernel_rfl) (by kernel_rfl) ⟨Q68,rfl,rfl,rfl,rfl,Q55,(by omega),(cI_load (by omega) 2 (u2) rfl),Q69,rfl,rfl,rfl,rfl,rfl,trivial⟩ rfl) (Hd.en_so (by intro h; cases h) (by intro h; cases h) (Hd.en_eq (r:=(.bool .true)) (by rfl) (Hd.en_ret (v:=(.v (.bool .true))) (by kernel_rfl) rfl)))
   ·skip
    have Q177:=lF Q69
    rcases bE (ltI 1000 (intAt (cI X) (0 * 1))) with Q83 | Q83
    ·skip
     have Q178:=lT Q83
     exact gL isR_e (gT cm (known_zs hw) 200 (T':=q42_55) (e:=.ret) (ps:=[ltI 0 X.length=true,true=true,true=true,true=true,true=true,ltI 0 W.length=true,0 < X.length,loadL pg (cI X) (0 * 1) 2=some (.v (.int .i64 (intAt (cI X) (0 * 1)))),ltI (intAt (cI X) (0 * 1)) 0=false,false=false,false=false,0 < X.length,false=false,loadL pg (cI X) (0 * 1) 2=some (.v (.int .i64 (intAt (cI X) (0 * 1)))),false=false,ltI 1000 (intAt (cI X) (0 * 1))=true]) [.go,.go,.go,.go,.go,.b true,.go,.b true,.go,.b true,.go,.b true,.go,.b true,.go,.go,.b true,.go,.go,.sym,.sym,.go,.go,.b false,.go,.b false,.go,.b false,.sym,.b false,.sym,.b false,.go,.go,.b true,.go] (by kernel_rfl) (by kernel_rfl) ⟨Q68,rfl,rfl,rfl,rfl,Q55,(by omega),(cI_load (by omega) 2 (u2) rfl),Q69,rfl,rfl,(by omega),rfl,(cI_load (by omega) 2 (u2) rfl),rfl,Q83,trivial⟩ rfl) (Hd.en_so (by intro h; cases h) (by intro h; cases h) (Hd.en_eq (r:=(.bool .true)) (by rfl) (Hd.en_ret (v:=(.v (.bool .true))) (by kernel_rfl) rfl)))
    ·skip
     have Q178:=lF Q83
     exact gL isN_e (gC cm (known_zs hw) 200 (T':=(q42_7 A B L W X ya yf yl yw yx)) (e:=.normal) (m:=12) (ps:=[ltI 0 X.length=true,true=true,true=true,true=true,true=true,ltI 0 W.length=true,0 < X.length,loadL pg (cI X) (0 * 1) 2=some (.v (.int .i64 (intAt (cI X) (0 * 1)))),ltI (intAt (cI X) (0 * 1)) 0=false,false=false,false=false,0 < X.length,false=false,loadL pg (cI X) (0 * 1) 2=some (.v (.int .i64 (intAt (cI X) (0 * 1)))),false=false,ltI 1000 (intAt (cI X) (0 * 1))=false,0 < X.length,loadL pg (cI X) (0 * 1) 2=some (.v (.int .i64 (intAt (cI X) (0 * 1)))),0 < W.length,loadL pg (cI W) (0 * 1) 2=some (.v (.int .i64 (intAt (cI W) (0 * 1)))),inR .i64 (intAt (cI X) (0 * 1) + intAt (cI W) (0 * 1)),inR .i64 (((0:Nat):Int) + 1)]) [.go,.go,.go,.go,.go,.b true,.go,.b true,.go,.b true,.go,.b true,.go,.b true,.go,.go,.b true,.go,.go,.sym,.sym,.go,.go,.b false,.go,.b false,.go,.b false,.sym,.b false,.sym,.b false,.go,.go,.b false,.go,.go,.go,.go,.sym,.sym,.go,.go,.go,.sym,.sym,.go,.go,.go,.go,.go,.go,.go,.go] [0,1,2,3,4,5,6,7,8,9,11] (q42_42 X yx) [(q42_37 A B L W ya yf yl yw),(q42_29 A B L W),(q42_36 A B L X ya yf yl yx),(q42_40 A B L ya yf yl),(q42_45 W X)] (by kernel_rfl) (by kernel_rfl) ⟨Q68,rfl,rfl,rfl,rfl,Q55,(by omega),(cI_load (by omega) 2 (u2) rfl),Q69,rfl,rfl,(by omega),rfl,(cI_load (by omega) 2 (u2) rfl),rfl,Q83,(by omega),(cI_load (by omega) 2 (u2) rfl),(by omega),(cI_load (by omega) 2 (u2) rfl),(iRZ42 (by omega) (by omega)),(iRZ42 (by omega) (by omega)),trivial⟩ rfl rfl (by decide) rfl ⟨nr_xl (nrl_plain (cI_plain X)),nr_ptr rfl,nr_ptr rfl,nr_ptr rfl,nr_ptr rfl,nr_int (show (1:Int)=(((0 + 1):Nat):Int) from by omega),trivial⟩ ⟨⟨by show 0 < 11; decide,nrb_cells (nrl_cons (nr_xl (nrl_plain (cI_plain A))) (nrl_cons (nr_xl (nrl_plain (cR_plain L))) (nrl_cons (nr_xl (nrl_plain (cB_plain B))) (nrl_cons (nr_xl (nrl_plain (cI_plain W))) (nrl_nil)))))⟩,⟨by show 7 < 11; decide,nrb_cells (nrl_cons (nr_v _) (nrl_cons (nr_v _) (nrl_nil)))⟩,⟨by show 8 < 11; decide,nrb_cells (nrl_cons (nr_xl (nrl_plain (cI_plain A))) (nrl_cons (nr_xl (nrl_plain (cR_plain L))) (nrl_cons (nr_xl (nrl_plain (cB_plain B))) (nrl_cons (nr_xl (nrl_plain (cI_plain X))) (nrl_nil)))))⟩,⟨by show 9 < 11; decide,nrb_cells (nrl_cons (nr_xl (nrl_plain (cI_plain A))) (nrl_cons (nr_xl (nrl_plain (cR_plain L))) (nrl_cons (nr_xl (nrl_plain (cB_plain B))) (nrl_cons (nr_slu rfl) (nrl_nil)))))⟩,⟨by show 10 < 11; decide,nrb_row (nrl_eq (show ((q42_47 W X):List AV)=[(.v (.int .i64 (intAt (cI X) (0 * 1) + intAt (cI W) (0 * 1))))] from by first | exact (tI_one _).symm | exact (tI_app _ _).symm) (cI_plain _))⟩,trivial⟩) (Hd.en_on (⟨0 + 1,by omega,trivial⟩) (by show (m + 1) - (0 + 1) < (m + 1) - 0; omega) rfl)
  ·skip
   have Q176:=lF Q55
   exfalso
   have h9:=lF Q55
   omega
 ·skip
  have Q175:=lF Q68
  exfalso; omega
theorem zSs_52 (ya yl yf yw:Value) (A:List Int) (L:PR) (B:List Bool) (W:List Int) (yx:Value) (X:List Int) (t:Int) (m:Nat) (hw:Known pg (clsO zwO)) (ht:0≤t∧t≤255) (hz:ZK A L B W) (hd:¬ dtd (cI A) A.length (cR L) (cB B) W.length) (hX:X.length≤100) (hm:W.length=m + 1) (hxm:X.length=m + 1) (Q0:(ltI 14 A.length)=false) (Q1:(ltI 14 L.length)=false) (Q2:(ltI 14 B.length)=false) (Q4:(ltI 100 W.length)=false) (Q5:(eqI (clE (cI A) A.length (cR L) L.length B.length (cI W) W.length) 0)=true) (Q6:(clB (dtd (cI A) A.length (cR L) (cB B) W.length))=false) (Q3:(ltI 100 X.length)=false) (Q7:(eqI (sumG (List.take (W.length * (0 + 1)) (List.drop 0 (splice (repL W.length (List.map AV.v (Value.int IntKind.i64 0).cells.toList)) (0 + ((IntKind.i64.wrap t).tmod W.length).toNat * 1) [.v (.int .i64 1)]))) (rdB (cI A) A.length (cR L) (cB B) W.length W.length).fst W.length) ((rdB (cI A) A.length (cR L) (cB B) W.length W.length).fst (intAt (cI A) (0 * 1) + (IntKind.i64.wrap t).tmod W.length - intAt (cI A) (0 * 1)).toNat) && (eqI (sumG (List.take (W.length * (0 + 1)) (List.drop 0 (splice (repL W.length (List.map AV.v (Value.int IntKind.i64 0).cells.toList)) (0 + ((IntKind.i64.wrap t).tmod W.length).toNat * 1) [.v (.int .i64 1)]))) (rdB (cI A) A.length (cR L) (cB B) W.length W.length).snd W.length) ((rdB (cI A) A.length (cR L) (cB B) W.length W.length).snd (intAt (cI A) (0 * 1) + (IntKind.i64.wrap t).tmod W.length - intAt (cI A) (0 * 1)).toNat) && true))=true) (h0b:True) (Q36:(ltI (((m) + 1:Nat):Int) X.length)=false) (w:World) (hs:LN):Goes pg 170 zSgK39 ((q42_13 A B L W X m ya yf yl yx)) (BaseW.H w hs) (OutH pg Try.f11 170 (.bool true) w):=by
 obtain ⟨hcl_A,hcl_L,hcl_B,hcl_W⟩:=hcZ42 A B L W
 have hcl_X:=cI_len X
 obtain ⟨hn,ha,he,hl,hw0⟩:=clE_zero hz
 have hW:=nw_le hz
 have hf:=fd_none hz hd
 have hr:=rdB_rng (B:=B) hz
 have he2:=he
 unfold eqP degI at he2
 have hA0:=ang_bd ha 0 (by omega)
 have hW1:1≤W.length:=by have:=deg_bd hn ha he 0 (by omega); omega
 have hk:=kt_bd (n:=W.length) ht hW1
 have Q8:=lF Q0
 have Q9:=lF Q1
 have Q10:=lF Q2
 have Q11:=lF Q4
 have Q12:=eqI_true Q5
 have Q13:=lF Q3
 have Q122:=lF Q36
 rcases bE (eqI (clE (cI A) A.length (cR L) L.length B.length (cI X) X.length) 0) with Q47 | Q47
 ·skip
  have Q179:=eqI_true Q47
  have hzx:=eqI_true Q47
  have hrx:=rdB_rng (B:=B) hzx
  have hwx:=(clE_zero hzx).2.2.2.2
  have s1:=sumG_bd (c:=cI W) (f:=(rdB (cI A) A.length (cR L) (cB B) W.length W.length).1) W.length (fun i hi=>by have:=hw0 i hi; unfold wgtAt at this; exact this) (fun i _=>⟨(hr i).1,(hr i).2.1⟩)
  have s2:=sumG_bd (c:=cI W) (f:=(rdB (cI A) A.length (cR L) (cB B) W.length W.length).2) W.length (fun i hi=>by have:=hw0 i hi; unfold wgtAt at this; exact this) (fun i _=>⟨(hr i).2.2.1,(hr i).2.2.2⟩)
  have s3:=sumG_bd (c:=cI X) (f:=(rdB (cI A) A.length (cR L) (cB B) X.length X.length).1) X.length (fun i hi=>by have:=hwx i hi; unfold wgtAt at this; exact this) (fun i _=>⟨(hrx i).1,(hrx i).2.1⟩)
  have s4:=sumG_bd (c:=cI X) (f:=(rdB (cI A) A.length (cR L) (cB B) X.length X.length).2) X.length (fun i hi=>by have:=hwx i hi; unfold wgtAt at this; exact this) (fun i _=>⟨(hrx i).2.2.1,(hrx i).2.2.2⟩)
  rcases bE (clB (dtd (cI A) A.length (cR L) (cB B) X.length)) with Q84 | Q84
  ·skip
   exact absurd (show dtd (cI A) A.length (cR L) (cB B) W.length from by rw [hm,← hxm]; exact clB_true.1 Q84) hd
  ·skip
   rcases bE (ltI 100 ((m + 1:Nat):Int)) with Q70 | Q70
   ·skip
    have Q180:=lT Q70
    exact gL isR_e (gT cm (known_zs hw) 200 (T':=⟨[(6,(.v (.bool .true)))],[],15,[]⟩) (e:=.ret) (ps:=[ltI 14 A.length=false,false=false,false=false,false=false,ltI 14 L.length=false,false=false,false=false,false=false,ltI 14 B.length=false,false=false,false=false,false=false,(!ltI 100 X.length)=true,true=true,IsLampK 1 2 1 1 (cI A) A.length (cR L) L.length (cB B) B.length (cI X) X.length,true=true,eqI (clE (cI A) A.length (cR L) L.length B.length (cI X) X.length) 0=true,true=true,IsLampK 1 2 1 1 (cI A) A.length (cR L) L.length (cB B) B.length (cI X) X.length,clE (cI A) A.length (cR L) L.length B.length (cI X) X.length=0,true=true,(!!clB (dtd (cI A) A.length (cR L) (cB B) X.length))=false,false=false,ltI 14 A.length=false,false=false,false=false,false=false,ltI 14 L.length=false,false=false,false=false,false=false,ltI 14 B.length=false,false=false,false=false,false=false,(!ltI 100 ((m + 1:Nat):Int))=false,false=false,false=false,false=false,false=false,false=false,false=false,(!false)=true]) [.go,.go,.go,.go,.go,.go,.go,.go,.go,.go,.go,.b false,.go,.b false,.go,.b false,.go,.b false,.go,.go,.go,.b false,.go,.b false,.go,.b false,.go,.b false,.go,.go,.go,.b false,.go,.b false,.go,.b false,.go,.b false,.go,.go,.go,.go,.go,.b true,.go,.b true,.b true,.go,.go,.go,.b true,.go,.b true,.b true,.go,.go,.go,.go,.go,.b false,.go,.b false,.go,.go,.go,.go,.go,.go,.go,.go,.go,.go,.b false,.go,.b false,.go,.b false,.go,.b false,.go,.go,.go,.b false,.go,.b false,.go,.b false,.go,.b false,.go,.go,.go,.b false,.go,.b false,.go,.b false,.go,.b false,.go,.go,.go,.go,.go,.b false,.b false,.b false,.go,.go,.b false,.b false,.b false,.go,.go,.b false,.go,.go,.b true,.go] (by kernel_rfl) (by kernel_rfl) ⟨Q0,rfl,rfl,rfl,Q1,rfl,rfl,rfl,Q2,rfl,rfl,rfl,(by rw [Q3]; rfl),rfl,⟨rfl,rfl,rfl,rfl,A,L,B,X,rfl,rfl,rfl,rfl,rfl,rfl,rfl,rfl⟩,rfl,Q47,rfl,⟨rfl,rfl,rfl,rfl,A,L,B,X,rfl,rfl,rfl,rfl,rfl,rfl,rfl,rfl⟩,hzx,rfl,(by rw [Q84]; rfl),rfl,Q0,rfl,rfl,rfl,Q1,rfl,rfl,rfl,Q2,rfl,rfl,rfl,(by rw [Q70]; rfl),rfl,rfl,rfl,rfl,rfl,rfl,rfl,trivial⟩ rfl) (Hd.en_eq (r:=(.bool .true)) (by rfl) (Hd.en_ret (v:=(.v (.bool .true))) (by kernel_rfl) rfl))
   ·skip
    have Q180:=lF Q70
    rcases bE (eqI (clE (cI A) A.length (cR L) L.length B.length (List.take ((m + 1) * (0 + 1)) (List.drop 0 (cI (tI (fun j=>intAt (cI X) (j * 1) + intAt (cI W) (j * 1)) (m + 1))))) (m + 1)) 0) with Q71 | Q71
    ·skip
     have Q181:=eqI_true Q71
     have hzy:=eqI_true Q71
     rcases bE (clB (dtd (cI A) A.length (cR L) (cB B) (m + 1))) with Q110 | Q110
     ·skip
      exact absurd (show dtd (cI A) A.length (cR L) (cB B) W.length from by rw [hm]; exact clB_true.1 Q110) hd
     ·skip
      rcases bE (eqI (sumG (List.take ((m + 1) * (0 + 1)) (List.drop 0 (cI (tI (fun j=>intAt (cI X) (j * 1) + intAt (cI W) (j * 1)) (m + 1))))) (rdB (cI A) A.length (cR L) (cB B) (m + 1) (m + 1)).fst (m + 1)) (sumG (cI W) (rdB (cI A) A.length (cR L) (cB B) W.length W.length).fst W.length + sumG (cI X) (rdB (cI A) A.length (cR L) (cB B) X.length X.length).fst X.length) && (eqI (sumG (List.take ((m + 1) * (0 + 1)) (List.drop 0 (cI (tI (fun j=>intAt (cI X) (j * 1) + intAt (cI W) (j * 1)) (m + 1))))) (rdB (cI A) A.length (cR L) (cB B) (m + 1) (m + 1)).snd (m + 1)) (sumG (cI W) (rdB (cI A) A.length (cR L) (cB B) W.length W.length).snd W.length + sumG (cI X) (rdB (cI A) A.length (cR L) (cB B) X.length X.length).snd X.length) && true)) with Q111 | Q111
      ·skip
       exact gL isR_e (gT cm (known_zs hw) 200 (T':=⟨[(6,(.v (.bool .true)))],[],18,[]⟩) (e:=.ret) (ps:=[ltI 14 A.length=false,false=false,false=false,false=false,ltI 14 L.length=false,false=false,false=false,false=false,ltI 14 B.length=false,false=false,false=false,false=false,(!ltI 100 X.length)=true,true=true,IsLampK 1 2 1 1 (cI A) A.length (cR L) L.length (cB B) B.length (cI X) X.length,true=true,eqI (clE (cI A) A.length (cR L) L.length B.length (cI X) X.length) 0=true,true=true,IsLampK 1 2 1 1 (cI A) A.length (cR L) L.length (cB B) B.length (cI X) X.length,clE (cI A) A.length (cR L) L.length B.length (cI X) X.length=0,true=true,(!!clB (dtd (cI A) A.length (cR L) (cB B) X.length))=false,false=false,ltI 14 A.length=false,false=false,false=false,false=false,ltI 14 L.length=false,false=false,false=false,false=false,ltI 14 B.length=false,false=false,false=false,false=false,(!ltI 100 ((m + 1:Nat):Int))=true,true=true,0 + (m + 1) * (0 + 1)≤((cI (tI (fun j=>intAt (cI X) (j * 1) + intAt (cI W) (j * 1)) (m + 1))):List AV).length,IsLampK 1 2 1 (0 + 1) (cI A) A.length (cR L) L.length (cB B) B.length (List.take ((m + 1) * (0 + 1)) (List.drop 0 (cI (tI (fun j=>intAt (cI X) (j * 1) + intAt (cI W) (j * 1)) (m + 1))))) (m + 1),true=true,eqI (clE (cI A) A.length (cR L) L.length B.length (List.take ((m + 1) * (0 + 1)) (List.drop 0 (cI (tI (fun j=>intAt (cI X) (j * 1) + intAt (cI W) (j * 1)) (m + 1))))) (m + 1)) 0=true,true=true,0 + (m + 1) * (0 + 1)≤((cI (tI (fun j=>intAt (cI X) (j * 1) + intAt (cI W) (j * 1)) (m + 1))):List AV).length,IsLampK 1 2 1 (0 + 1) (cI A) A.length (cR L) L.length (cB B) B.length (List.take ((m + 1) * (0 + 1)) (List.drop 0 (cI (tI (fun j=>intAt (cI X) (j * 1) + intAt (cI W) (j * 1)) (m + 1))))) (m + 1),clE (cI A) A.length (cR L) L.length B.length (List.take ((m + 1) * (0 + 1)) (List.drop 0 (cI (tI (fun j=>intAt (cI X) (j * 1) + intAt (cI W) (j * 1)) (m + 1))))) (m + 1)=0,true=true,false=false,(!!clB (dtd (cI A) A.length (cR L) (cB B) (m + 1)))=false,IsLampK 1 2 1 1 (cI A) A.length (cR L) L.length (cB B) B.length (cI X) X.length,clE (cI A) A.length (cR L) L.length B.length (cI X) X.length=0,fdAll (cB B) (cR L) A.length=none,0 + (m + 1) * (0 + 1)≤((cI (tI (fun j=>intAt (cI X) (j * 1) + intAt (cI W) (j * 1)) (m + 1))):List AV).length,IsLampK 1 2 1 (0 + 1) (cI A) A.length (cR L) L.length (cB B) B.length (List.take ((m + 1) * (0 + 1)) (List.drop 0 (cI (tI (fun j=>intAt (cI X) (j * 1) + intAt (cI W) (j * 1)) (m + 1))))) (m + 1),clE (cI A) A.length (cR L) L.length B.length (List.take ((m + 1) * (0 + 1)) (List.drop 0 (cI (tI (fun j=>intAt (cI X) (j * 1) + intAt (cI W) (j * 1)) (m + 1))))) (m + 1)=0,fdAll (cB B) (cR L) A.length=none,eqI 0 0=true,true=true,eqI 0 0=true,true=true,true=true,true=true,true=true,true=true,inR .i64 (sumG (cI W) (rdB (cI A) A.length (cR L) (cB B) W.length W.length).fst W.length + sumG (cI X) (rdB (cI A) A.length (cR L) (cB B) X.length X.length).fst X.length),true=true,true=true,true=true,true=true,true=true,inR .i64 (sumG (cI W) (rdB (cI A) A.length (cR L) (cB B) W.length W.length).snd W.length + sumG (cI X) (rdB (cI A) A.length (cR L) (cB B) X.length X.length).snd X.length),true=true,true=true,(eqI (sumG (List.take ((m + 1) * (0 + 1)) (List.drop 0 (cI (tI (fun j=>intAt (cI X) (j * 1) + intAt (cI W) (j * 1)) (m + 1))))) (rdB (cI A) A.length (cR L) (cB B) (m + 1) (m + 1)).fst (m + 1)) (sumG (cI W) (rdB (cI A) A.length (cR L) (cB B) W.length W.length).fst W.length + sumG (cI X) (rdB (cI A) A.length (cR L) (cB B) X.length X.length).fst X.length) && (eqI (sumG (List.take ((m + 1) * (0 + 1)) (List.drop 0 (cI (tI (fun j=>intAt (cI X) (j * 1) + intAt (cI W) (j * 1)) (m + 1))))) (rdB (cI A) A.length (cR L) (cB B) (m + 1) (m + 1)).snd (m + 1)) (sumG (cI W) (rdB (cI A) A.length (cR L) (cB B) W.length W.length).snd W.length + sumG (cI X) (rdB (cI A) A.length (cR L) (cB B) X.length X.length).snd X.length) && true))=true]) [.go,.go,.go,.go,.go,.go,.go,.go,.go,.go,.go,.b false,.go,.b false,.go,.b false,.go,.b false,.go,.go,.go,.b false,.go,.b false,.go,.b false,.go,.b false,.go,.go,.go,.b false,.go,.b false,.go,.b false,.go,.b false,.go,.go,.go,.go,.go,.b true,.go,.b true,.b true,.go,.go,.go,.b true,.go,.b true,.b true,.go,.go,.go,.go,.go,.b false,.go,.b false,.go,.go,.go,.go,.go,.go,.go,.go,.go,.go,.b false,.go,.b false,.go,.b false,.go,.b false,.go,.go,.go,.b false,.go,.b false,.go,.b false,.go,.b false,.go,.go,.go,.b false,.go,.b false,.go,.b false,.go,.b false,.go,.go,.go,.go,.go,.b true,.go,.b true,.b true,.go,.go,.go,.b true,.go,.b true,.b true,.go,.go,.go,.b false,.go,.go,.b false,.go,.go,.go,.go,.go,.go,.go,.go,.go,.go,.go,.go,.go,.go,.go,.go,.go,.b true,.go,.b true,.go,.go,.go,.b true,.go,.b true,.go,.b true,.go,.b true,.go,.b true,.go,.b true,.go,.b true,.go,.b true,.go,.b true,.go,.b true,.go,.b true,.go,.b true,.go,.go,.go,.go,.go,.b true,.go,.go,.go,.b true,.go,.go] (by kernel_rfl) (by kernel_rfl) ⟨Q0,rfl,rfl,rfl,Q1,rfl,rfl,rfl,Q2,rfl,rfl,rfl,(by rw [Q3]; rfl),rfl,⟨rfl,rfl,rfl,rfl,A,L,B,X,rfl,rfl,rfl,rfl,rfl,rfl,rfl,rfl⟩,rfl,Q47,rfl,⟨rfl,rfl,rfl,rfl,A,L,B,X,rfl,rfl,rfl,rfl,rfl,rfl,rfl,rfl⟩,hzx,rfl,(by rw [Q84]; rfl),rfl,Q0,rfl,rfl,rfl,Q1,rfl,rfl,rfl,Q2,rfl,rfl,rfl,(by rw [Q70]; rfl),rfl,(by show _≤(cI _).length; rw [cI_len,tI_len]; omega),⟨rfl,rfl,rfl,rfl,A,L,B,_,rfl,rfl,rfl,rfl,rfl,rfl,take_tJ,(tI_len _ _).symm⟩,rfl,Q71,rfl,(by show _≤(cI _).length; rw [cI_len,tI_len]; omega),⟨rfl,rfl,rfl,rfl,A,L,B,_,rfl,rfl,rfl,rfl,rfl,rfl,take_tJ,(tI_len _ _).symm⟩,hzy,rfl,rfl,(by rw [Q110]; rfl),⟨rfl,rfl,rfl,rfl,A,L,B,X,rfl,rfl,rfl,rfl,rfl,rfl,rfl,rfl⟩,hzx,hf,(by show _≤(cI _).length; rw [cI_len,tI_len]; omega),⟨rfl,rfl,rfl,rfl,A,L,B,_,rfl,rfl,rfl,rfl,rfl,rfl,take_tJ,(tI_len _ _).symm⟩,hzy,hf,rfl,rfl,rfl,rfl,rfl,rfl,rfl,rfl,(iRZ42 (by omega) (by omega)),rfl,rfl,rfl,rfl,rfl,(iRZ42 (by omega) (by omega)),rfl,rfl,Q111,trivial⟩ rfl) (Hd.en_eq (r:=(.bool .true)) (by rfl) (Hd.en_ret (v:=(.v (.bool .true))) (by kernel_rfl) rfl))
      ·skip
       exact absZ Q111 (and2 (sums_eq hm hxm).1 (sums_eq hm hxm).2)
    ·skip
     have Q181:=eqI_false Q71
     exact gL isR_e (gT cm (known_zs hw) 200 (T':=⟨[(6,(.v (.bool .true)))],[],15,[]⟩) (e:=.ret) (ps:=[ltI 14 A.length=false,false=false,false=false,false=false,ltI 14 L.length=false,false=false,false=false,false=false,ltI 14 B.length=false,false=false,false=false,false=false,(!ltI 100 X.length)=true,true=true,IsLampK 1 2 1 1 (cI A) A.length (cR L) L.length (cB B) B.length (cI X) X.length,true=true,eqI (clE (cI A) A.length (cR L) L.length B.length (cI X) X.length) 0=true,true=true,IsLampK 1 2 1 1 (cI A) A.length (cR L) L.length (cB B) B.length (cI X) X.length,clE (cI A) A.length (cR L) L.length B.length (cI X) X.length=0,true=true,(!!clB (dtd (cI A) A.length (cR L) (cB B) X.length))=false,false=false,ltI 14 A.length=false,false=false,false=false,false=false,ltI 14 L.length=false,false=false,false=false,false=false,ltI 14 B.length=false,false=false,false=false,false=false,(!ltI 100 ((m + 1:Nat):Int))=true,true=true,0 + (m + 1) * (0 + 1)≤((cI (tI (fun j=>intAt (cI X) (j * 1) + intAt (cI W) (j * 1)) (m + 1))):List AV).length,IsLampK 1 2 1 (0 + 1) (cI A) A.length (cR L) L.length (cB B) B.length (List.take ((m + 1) * (0 + 1)) (List.drop 0 (cI (tI (fun j=>intAt (cI X) (j * 1) + intAt (cI W) (j * 1)) (m + 1))))) (m + 1),true=true,eqI (clE (cI A) A.length (cR L) L.length B.length (List.take ((m + 1) * (0 + 1)) (List.drop 0 (cI (tI (fun j=>intAt (cI X) (j * 1) + intAt (cI W) (j * 1)) (m + 1))))) (m + 1)) 0=false,false=false,false=false,false=false,(!false)=true]) [.go,.go,.go,.go,.go,.go,.go,.go,.go,.go,.go,.b false,.go,.b false,.go,.b false,.go,.b false,.go,.go,.go,.b false,.go,.b false,.go,.b false,.go,.b false,.go,.go,.go,.b false,.go,.b false,.go,.b false,.go,.b false,.go,.go,.go,.go,.go,.b true,.go,.b true,.b true,.go,.go,.go,.b true,.go,.b true,.b true,.go,.go,.go,.go,.go,.b false,.go,.b false,.go,.go,.go,.go,.go,.go,.go,.go,.go,.go,.b false,.go,.b false,.go,.b false,.go,.b false,.go,.go,.go,.b false,.go,.b false,.go,.b false,.go,.b false,.go,.go,.go,.b false,.go,.b false,.go,.b false,.go,.b false,.go,.go,.go,.go,.go,.b true,.go,.b true,.b true,.go,.go,.go,.b false,.b false,.b false,.go,.go,.b false,.go,.go,.b true,.go] (by kernel_rfl) (by kernel_rfl) ⟨Q0,rfl,rfl,rfl,Q1,rfl,rfl,rfl,Q2,rfl,rfl,rfl,(by rw [Q3]; rfl),rfl,⟨rfl,rfl,rfl,rfl,A,L,B,X,rfl,rfl,rfl,rfl,rfl,rfl,rfl,rfl⟩,rfl,Q47,rfl,⟨rfl,rfl,rfl,rfl,A,L,B,X,rfl,rfl,rfl,rfl,rfl,rfl,rfl,rfl⟩,hzx,rfl,(by rw [Q84]; rfl),rfl,Q0,rfl,rfl,rfl,Q1,rfl,rfl,rfl,Q2,rfl,rfl,rfl,(by rw [Q70]; rfl),rfl,(by show _≤(cI _).length; rw [cI_len,tI_len]; omega),⟨rfl,rfl,rfl,rfl,A,L,B,_,rfl,rfl,rfl,rfl,rfl,rfl,take_tJ,(tI_len _ _).symm⟩,rfl,Q71,rfl,rfl,rfl,rfl,trivial⟩ rfl) (Hd.en_eq (r:=(.bool .true)) (by rfl) (Hd.en_ret (v:=(.v (.bool .true))) (by kernel_rfl) rfl))
 ·skip
  have Q179:=eqI_false Q47
  exact gL isR_e (gT cm (known_zs hw) 200 (T':=⟨[(6,(.v (.bool .true)))],[],13,[]⟩) (e:=.ret) (ps:=[ltI 14 A.length=false,false=false,false=false,false=false,ltI 14 L.length=false,false=false,false=false,false=false,ltI 14 B.length=false,false=false,false=false,false=false,(!ltI 100 X.length)=true,true=true,IsLampK 1 2 1 1 (cI A) A.length (cR L) L.length (cB B) B.length (cI X) X.length,true=true,eqI (clE (cI A) A.length (cR L) L.length B.length (cI X) X.length) 0=false,false=false,false=false,(!false)=true,true=true,true=true,true=true]) [.go,.go,.go,.go,.go,.go,.go,.go,.go,.go,.go,.b false,.go,.b false,.go,.b false,.go,.b false,.go,.go,.go,.b false,.go,.b false,.go,.b false,.go,.b false,.go,.go,.go,.b false,.go,.b false,.go,.b false,.go,.b false,.go,.go,.go,.go,.go,.b true,.go,.b true,.b true,.go,.go,.go,.b false,.b false,.b false,.go,.go,.go,.go,.b true,.b true,.b true,.go,.b true,.go] (by kernel_rfl) (by kernel_rfl) ⟨Q0,rfl,rfl,rfl,Q1,rfl,rfl,rfl,Q2,rfl,rfl,rfl,(by rw [Q3]; rfl),rfl,⟨rfl,rfl,rfl,rfl,A,L,B,X,rfl,rfl,rfl,rfl,rfl,rfl,rfl,rfl⟩,rfl,Q47,rfl,rfl,rfl,rfl,rfl,rfl,trivial⟩ rfl) (Hd.en_eq (r:=(.bool .true)) (by rfl) (Hd.en_ret (v:=(.v (.bool .true))) (by kernel_rfl) rfl))
theorem zSs_50 (ya yl yf yw:Value) (A:List Int) (L:PR) (B:List Bool) (W:List Int) (yx:Value) (X:List Int) (t:Int) (m:Nat) (hw:Known pg (clsO zwO)) (ht:0≤t∧t≤255) (hz:ZK A L B W) (hd:¬ dtd (cI A) A.length (cR L) (cB B) W.length) (hX:X.length≤100) (hm:W.length=m + 1) (hxm:X.length=m + 1) (Q0:(ltI 14 A.length)=false) (Q1:(ltI 14 L.length)=false) (Q2:(ltI 14 B.length)=false) (Q4:(ltI 100 W.length)=false) (Q5:(q42_48 A B L W)=true) (Q6:(q42_53 A B L W)=false) (Q3:(ltI 100 X.length)=false) (Q7:(q42_4 A B L W t)=true) (i:Nat) (hi1:(i + 1)≤(m + 1)) (hi2:True) (w:World) (hs:LN):Goes pg 170 zSgK47 ((q42_6 A B L W X i ya yf yl yw yx)) (BaseW.H w hs) (Hd.StepC pg 170 0 (fun i:{i:Nat // i≤(m + 1)∧True}=>Ev.fam0 (q42_8 A B L W X ya yf yl yw yx) (fun i=>(q42_6 A B L W X i ya yf yl yw yx)) i.1) (fun i:{i:Nat // i≤(m + 1)∧True}=>(m + 1) - i.1) zSgK39 w (OutH pg Try.f11 170 (.bool true) w) (⟨(i + 1),hi1,hi2⟩:{i:Nat // i≤(m + 1)∧True})):=by
 obtain ⟨hcl_A,hcl_L,hcl_B,hcl_W⟩:=hcZ42 A B L W
 have hcl_X:=cI_len X
 obtain ⟨hn,ha,he,hl,hw0⟩:=clE_zero hz
 have hW:=nw_le hz
 have hf:=fd_none hz hd
 have hr:=rdB_rng (B:=B) hz
 have he2:=he
 unfold eqP degI at he2
 have hA0:=ang_bd ha 0 (by omega)
 have hW1:1≤W.length:=by have:=deg_bd hn ha he 0 (by omega); omega
 have hk:=kt_bd (n:=W.length) ht hW1
 have Q8:=lF Q0
 have Q9:=lF Q1
 have Q10:=lF Q2
 have Q11:=lF Q4
 have Q12:=eqI_true Q5
 have Q13:=lF Q3
 rcases bE (ltI ((i + 1:Nat):Int) X.length) with Q36 | Q36
 ·skip
  have Q122:=lT Q36
  rcases bE (ltI ((i + 1:Nat):Int) W.length) with Q56 | Q56
  ·skip
   have Q182:=lT Q56
   have hwi:=hw0 (i + 1) (by omega)
   unfold wgtAt at hwi
   rcases bE (ltI (intAt (cI X) ((i + 1) * 1)) 0) with Q72 | Q72
   ·skip
    have Q183:=lT Q72
    exact gL isR_e (gT cm (known_zs hw) 200 (T':=q42_54) (e:=.ret) (ps:=[ltI ((i + 1:Nat):Int) X.length=true,true=true,true=true,true=true,true=true,ltI ((i + 1:Nat):Int) W.length=true,i + 1 < X.length,loadL pg (cI X) ((i + 1) * 1) 2=some (.v (.int .i64 (intAt (cI X) ((i + 1) * 1)))),ltI (intAt (cI X) ((i + 1) * 1)) 0=true,true=true,true=true,true=true,true=true,true=true]) [.go,.go,.go,.go,.go,.b true,.go,.b true,.go,.b true,.go,.b true,.go,.b true,.go,.go,.b true,.go,.go,.sym,.sym,.go,.go,.b true,.b true,.b true,.b true,.b true,.go,.b true,.go] (by kernel_rfl) (by kernel_rfl) ⟨Q36,rfl,rfl,rfl,rfl,Q56,(by omega),(cI_load (by omega) 2 (u2) rfl),Q72,rfl,rfl,rfl,rfl,rfl,trivial⟩ rfl) (Hd.en_so (by intro h; cases h) (by intro h; cases h) (Hd.en_eq (r:=(.bool .true)) (by rfl) (Hd.en_ret (v:=(.v (.bool .true))) (by kernel_rfl) rfl)))
   ·skip
    have Q183:=lF Q72
    rcases bE (ltI 1000 (intAt (cI X) ((i + 1) * 1))) with Q85 | Q85
    ·skip
     have Q184:=lT Q85
     exact gL isR_e (gT cm (known_zs hw) 200 (T':=q42_54) (e:=.ret) (ps:=[ltI ((i + 1:Nat):Int) X.length=true,true=true,true=true,true=true,true=true,ltI ((i + 1:Nat):Int) W.length=true,i + 1 < X.length,loadL pg (cI X) ((i + 1) * 1) 2=some (.v (.int .i64 (intAt (cI X) ((i + 1) * 1)))),ltI (intAt (cI X) ((i + 1) * 1)) 0=false,false=false,false=false,i + 1 < X.length,false=false,loadL pg (cI X) ((i + 1) * 1) 2=some (.v (.int .i64 (intAt (cI X) ((i + 1) * 1)))),false=false,ltI 1000 (intAt (cI X) ((i + 1) * 1))=true]) [.go,.go,.go,.go,.go,.b true,.go,.b true,.go,.b true,.go,.b true,.go,.b true,.go,.go,.b true,.go,.go,.sym,.sym,.go,.go,.b false,.go,.b false,.go,.b false,.sym,.b false,.sym,.b false,.go,.go,.b true,.go] (by kernel_rfl) (by kernel_rfl) ⟨Q36,rfl,rfl,rfl,rfl,Q56,(by omega),(cI_load (by omega) 2 (u2) rfl),Q72,rfl,rfl,(by omega),rfl,(cI_load (by omega) 2 (u2) rfl),rfl,Q85,trivial⟩ rfl) (Hd.en_so (by intro h; cases h) (by intro h; cases h) (Hd.en_eq (r:=(.bool .true)) (by rfl) (Hd.en_ret (v:=(.v (.bool .true))) (by kernel_rfl) rfl)))
    ·skip
     have Q184:=lF Q85
     exact gL isN_e (gC cm (known_zs hw) 200 (T':=(q42_5 A B L W X i ya yf yl yw yx)) (e:=.normal) (m:=13) (ps:=[ltI ((i + 1:Nat):Int) X.length=true,true=true,true=true,true=true,true=true,ltI ((i + 1:Nat):Int) W.length=true,i + 1 < X.length,loadL pg (cI X) ((i + 1) * 1) 2=some (.v (.int .i64 (intAt (cI X) ((i + 1) * 1)))),ltI (intAt (cI X) ((i + 1) * 1)) 0=false,false=false,false=false,i + 1 < X.length,false=false,loadL pg (cI X) ((i + 1) * 1) 2=some (.v (.int .i64 (intAt (cI X) ((i + 1) * 1)))),false=false,ltI 1000 (intAt (cI X) ((i + 1) * 1))=false,i + 1 < X.length,loadL pg (cI X) ((i + 1) * 1) 2=some (.v (.int .i64 (intAt (cI X) ((i + 1) * 1)))),i + 1 < W.length,loadL pg (cI W) ((i + 1) * 1) 2=some (.v (.int .i64 (intAt (cI W) ((i + 1) * 1)))),inR .i64 (intAt (cI X) ((i + 1) * 1) + intAt (cI W) ((i + 1) * 1)),((q42_46 W X i):List AV).length=(i + 1) * 1,i + 1 + 1≤1000000,inR .i64 (((i + 1:Nat):Int) + 1)]) [.go,.go,.go,.go,.go,.b true,.go,.b true,.go,.b true,.go,.b true,.go,.b true,.go,.go,.b true,.go,.go,.sym,.sym,.go,.go,.b false,.go,.b false,.go,.b false,.sym,.b false,.sym,.b false,.go,.go,.b false,.go,.go,.go,.go,.sym,.sym,.go,.go,.go,.sym,.sym,.go,.go,.sym,.go,.go,.go,.go,.go] [0,1,2,3,4,5,6,7,8,9,12] (q42_39 X i yx) [(q42_37 A B L W ya yf yl yw),(q42_29 A B L W),(q42_36 A B L X ya yf yl yx),(q42_38 A B L i ya yf yl),(q42_32 W X i)] (by kernel_rfl) (by kernel_rfl) ⟨Q36,rfl,rfl,rfl,rfl,Q56,(by omega),(cI_load (by omega) 2 (u2) rfl),Q72,rfl,rfl,(by omega),rfl,(cI_load (by omega) 2 (u2) rfl),rfl,Q85,(by omega),(cI_load (by omega) 2 (u2) rfl),(by omega),(cI_load (by omega) 2 (u2) rfl),(iRZ42 (by omega) (by omega)),(by show (cI _).length=_; rw [cI_len,tI_len]; omega),(by omega),(iRZ42 (by omega) (by omega)),trivial⟩ rfl rfl (by decide) rfl ⟨nr_xl (nrl_plain (cI_plain X)),nr_ptr rfl,nr_ptr rfl,nr_ptr rfl,nr_ptr rfl,nr_int (show ((((i + 1:Nat):Int) + 1):Int)=((((i + 1) + 1):Nat):Int) from by omega),trivial⟩ ⟨⟨by show 0 < 11; decide,nrb_cells (nrl_cons (nr_xl (nrl_plain (cI_plain A))) (nrl_cons (nr_xl (nrl_plain (cR_plain L))) (nrl_cons (nr_xl (nrl_plain (cB_plain B))) (nrl_cons (nr_xl (nrl_plain (cI_plain W))) (nrl_nil)))))⟩,⟨by show 7 < 11; decide,nrb_cells (nrl_cons (nr_v _) (nrl_cons (nr_v _) (nrl_nil)))⟩,⟨by show 8 < 11; decide,nrb_cells (nrl_cons (nr_xl (nrl_plain (cI_plain A))) (nrl_cons (nr_xl (nrl_plain (cR_plain L))) (nrl_cons (nr_xl (nrl_plain (cB_plain B))) (nrl_cons (nr_xl (nrl_plain (cI_plain X))) (nrl_nil)))))⟩,⟨by show 9 < 11; decide,nrb_cells (nrl_cons (nr_xl (nrl_plain (cI_plain A))) (nrl_cons (nr_xl (nrl_plain (cR_plain L))) (nrl_cons (nr_xl (nrl_plain (cB_plain B))) (nrl_cons (nr_slu rfl) (nrl_nil)))))⟩,⟨by show 10 < 11; decide,nrb_row (nrl_eq (show ((q42_44 W X i):List AV)=((q42_46 W X i) ++ [(.v (.int .i64 (intAt (cI X) ((i + 1) * 1) + intAt (cI W) ((i + 1) * 1))))]) from by first | exact (tI_one _).symm | exact (tI_app _ _).symm) (cI_plain _))⟩,trivial⟩) (Hd.en_on (⟨(i + 1) + 1,by omega,trivial⟩) (by show (m + 1) - ((i + 1) + 1) < (m + 1) - (i + 1); omega) rfl)
  ·skip
   have Q182:=lF Q56
   exfalso
   have h9:=lF Q56
   omega
 ·skip
  have Q122:=lF Q36
  obtain rfl:m=i:=by omega
  exact gL isX_e (gT cm (known_zs hw) 200 (T':=(q42_13 A B L W X m ya yf yl yx)) (e:=.exit 0) (ps:=[ltI (((m) + 1:Nat):Int) X.length=false,false=false,false=false,false=false,false=false,false=false]) [.go,.go,.go,.go,.go,.b false,.b false,.b false,.b false,.b false,.go,.b false] (by kernel_rfl) (by kernel_rfl) ⟨Q36,rfl,rfl,rfl,rfl,rfl,trivial⟩ rfl) (Hd.en_sx (zSs_52 ya yl yf yw A L B W yx X t m hw ht hz hd hX hm hxm Q0 Q1 Q2 Q4 Q5 Q6 Q3 Q7 hi2  Q36 w hs))
theorem zSs_46 (ya yl yf yw:Value) (A:List Int) (L:PR) (B:List Bool) (W:List Int) (yx:Value) (X:List Int) (t:Int) (m:Nat) (hw:Known pg (clsO zwO)) (ht:0≤t∧t≤255) (hz:ZK A L B W) (hd:¬ dtd (cI A) A.length (cR L) (cB B) W.length) (hX:X.length≤100) (hm:W.length=m + 1) (hxm:X.length=m + 1) (Q0:(ltI 14 A.length)=false) (Q1:(ltI 14 L.length)=false) (Q2:(ltI 14 B.length)=false) (Q4:(ltI 100 W.length)=false) (Q5:(q42_48 A B L W)=true) (Q6:(q42_53 A B L W)=false) (Q3:(ltI 100 X.length)=false) (Q7:(q42_4 A B L W t)=true) (w:World) (hs:LN):Goes pg 170 zSgK42 ((q42_9 A B L W X ya yf yl yw yx)) (BaseW.H w hs) (Hd.AfterN pg 170 zSgK39 w (OutH pg Try.f11 170 (.bool true) w)):=by
 obtain ⟨hcl_A,hcl_L,hcl_B,hcl_W⟩:=hcZ42 A B L W
 have hcl_X:=cI_len X
 obtain ⟨hn,ha,he,hl,hw0⟩:=clE_zero hz
 have hW:=nw_le hz
 have hf:=fd_none hz hd
 have hr:=rdB_rng (B:=B) hz
 have he2:=he
 unfold eqP degI at he2
 have hA0:=ang_bd ha 0 (by omega)
 have hW1:1≤W.length:=by have:=deg_bd hn ha he 0 (by omega); omega
 have hk:=kt_bd (n:=W.length) ht hW1
 have Q8:=lF Q0
 have Q9:=lF Q1
 have Q10:=lF Q2
 have Q11:=lF Q4
 have Q12:=eqI_true Q5
 have Q13:=lF Q3
 exact Hd.goes_loopA (id:=0) (by kernel_rfl) (by kernel_rfl) (fun i:{i:Nat // i≤(m + 1)∧True}=>Ev.fam0 (q42_8 A B L W X ya yf yl yw yx) (fun i=>(q42_6 A B L W X i ya yf yl yw yx)) i.1) (fun i:{i:Nat // i≤(m + 1)∧True}=>(m + 1) - i.1) (fun i hs=>match i with | ⟨0,h1,h2⟩=>zSs_48 ya yl yf yw A L B W yx X t m hw ht hz hd hX hm hxm Q0 Q1 Q2 Q4 Q5 Q6 Q3 Q7 h1 h2 w hs | ⟨j + 1,h1,h2⟩=>zSs_50 ya yl yf yw A L B W yx X t m hw ht hz hd hX hm hxm Q0 Q1 Q2 Q4 Q5 Q6 Q3 Q7 j h1 h2 w hs) ⟨0,Nat.zero_le _,trivial⟩ hs
theorem zSs_44 (ya yl yf yw:Value) (A:List Int) (L:PR) (B:List Bool) (W:List Int) (yx:Value) (X:List Int) (t:Int) (m:Nat) (hw:Known pg (clsO zwO)) (ht:0≤t∧t≤255) (hz:ZK A L B W) (hd:¬ dtd (cI A) A.length (cR L) (cB B) W.length) (hX:X.length≤100) (hm:W.length=m + 1) (hxm:X.length=m + 1) (Q0:(ltI 14 A.length)=false) (Q1:(ltI 14 L.length)=false) (Q2:(ltI 14 B.length)=false) (Q4:(ltI 100 W.length)=false) (Q5:(q42_48 A B L W)=true) (Q6:(q42_53 A B L W)=false) (Q3:(ltI 100 X.length)=false) (Q7:(q42_4 A B L W t)=true) (w:World) (hs:LN):Goes pg 170 zSgK42 ((q42_9 A B L W X ya yf yl yw yx)) (BaseW.H w hs) (Hd.AfterN pg 170 zSgK39 w (OutH pg Try.f11 170 (.bool true) w)):=by
 exact zSs_46 ya yl yf yw A L B W yx X t m hw ht hz hd hX hm hxm Q0 Q1 Q2 Q4 Q5 Q6 Q3 Q7 w hs
theorem zSg_44 (ya yl yf yw:Value) (A:List Int) (L:PR) (B:List Bool) (W:List Int) (yx:Value) (X:List Int) (t:Int) (hw:Known pg (clsO zwO)) (ht:0≤t∧t≤255) (hz:ZK A L B W) (hd:¬ dtd (cI A) A.length (cR L) (cB B) W.length) (hX:X.length≤100) (Q0:(ltI 14 A.length)=false) (Q1:(ltI 14 L.length)=false) (Q2:(ltI 14 B.length)=false) (Q4:(ltI 100 W.length)=false) (Q5:(q42_48 A B L W)=true) (Q6:(q42_53 A B L W)=false) (Q3:(ltI 100 X.length)=false) (Q7:(q42_4 A B L W t)=true) (w:World) (hs:LN):Goes pg 170 zSgK42 ((q42_9 A B L W X ya yf yl yw yx)) (BaseW.H w hs) (Hd.AfterN pg 170 zSgK39 w (OutH pg Try.f11 170 (.bool true) w)):=by
 obtain ⟨hn,ha,he,hl,hw0⟩:=clE_zero hz
 have hW1:1≤W.length:=by have:=deg_bd hn ha he 0 (by omega); omega
 rcases Nat.eq_zero_or_pos X.length with h0 | h0
 ·exact zSo_44 ya yl yf yw A L B W yx X t hw ht hz hd hX h0 Q0 Q1 Q2 Q4 Q5 Q6 Q3 Q7 w hs
 ·rcases Nat.lt_trichotomy X.length W.length with q | q | q
  ·exact zSp_44 ya yl yf yw A L B W yx X t (X.length - 1) hw ht hz hd hX (by omega) q Q0 Q1 Q2 Q4 Q5 Q6 Q3 Q7 w hs
  ·exact zSs_44 ya yl yf yw A L B W yx X t (W.length - 1) hw ht hz hd hX (by omega) (by omega) Q0 Q1 Q2 Q4 Q5 Q6 Q3 Q7 w hs
  ·exact zSq_44 ya yl yf yw A L B W yx X t (W.length - 1) hw ht hz hd hX (by omega) q Q0 Q1 Q2 Q4 Q5 Q6 Q3 Q7 w hs
theorem zSg_41 (ya yl yf yw:Value) (A:List Int) (L:PR) (B:List Bool) (W:List Int) (yx:Value) (X:List Int) (t:Int) (hw:Known pg (clsO zwO)) (ht:0≤t∧t≤255) (hz:ZK A L B W) (hd:¬ dtd (cI A) A.length (cR L) (cB B) W.length) (hX:X.length≤100) (Q0:(ltI 14 A.length)=false) (Q1:(ltI 14 L.length)=false) (Q2:(ltI 14 B.length)=false) (Q4:(ltI 100 W.length)=false) (Q5:(q42_48 A B L W)=true) (Q6:(q42_53 A B L W)=false) (Q3:(ltI 100 X.length)=false) (Q7:(q42_4 A B L W t)=true) (w:World) (hs:LN):Goes pg 170 zSgK40 ((q42_11 A B L W X ya yf yl yw yx)) (BaseW.H w hs) (Hd.AfterN pg 170 zSgK39 w (OutH pg Try.f11 170 (.bool true) w)):=by
 obtain ⟨hcl_A,hcl_L,hcl_B,hcl_W⟩:=hcZ42 A B L W
 have hcl_X:=cI_len X
 obtain ⟨hn,ha,he,hl,hw0⟩:=clE_zero hz
 have hW:=nw_le hz
 have hf:=fd_none hz hd
 have hr:=rdB_rng (B:=B) hz
 have he2:=he
 unfold eqP degI at he2
 have hA0:=ang_bd ha 0 (by omega)
 have hW1:1≤W.length:=by have:=deg_bd hn ha he 0 (by omega); omega
 have hk:=kt_bd (n:=W.length) ht hW1
 have Q8:=lF Q0
 have Q9:=lF Q1
 have Q10:=lF Q2
 have Q11:=lF Q4
 have Q12:=eqI_true Q5
 have Q13:=lF Q3
 refine Hd.goes_seqA (by kernel_rfl) ?_
 exact gL isN_e (gT cm (known_zs hw) 200 (T':=(q42_9 A B L W X ya yf yl yw yx)) (e:=.normal) (ps:=[]) [.go] (by kernel_rfl) (by kernel_rfl) trivial rfl) (Hd.en_n (zSg_44 ya yl yf yw A L B W yx X t hw ht hz hd hX Q0 Q1 Q2 Q4 Q5 Q6 Q3 Q7 w hs))
theorem zSg_38 (ya yl yf yw:Value) (A:List Int) (L:PR) (B:List Bool) (W:List Int) (yx:Value) (X:List Int) (t:Int) (hw:Known pg (clsO zwO)) (ht:0≤t∧t≤255) (hz:ZK A L B W) (hd:¬ dtd (cI A) A.length (cR L) (cB B) W.length) (hX:X.length≤100) (Q0:(ltI 14 A.length)=false) (Q1:(ltI 14 L.length)=false) (Q2:(ltI 14 B.length)=false) (Q4:(ltI 100 W.length)=false) (Q5:(q42_48 A B L W)=true) (Q6:(q42_53 A B L W)=false) (Q3:(ltI 100 X.length)=false) (Q7:(q42_4 A B L W t)=true) (w:World) (hs:LN):Goes pg 170 zSgK36 ((q42_11 A B L W X ya yf yl yw yx)) (BaseW.H w hs) (OutH pg Try.f11 170 (.bool true) w):=by
 exact Hd.goes_seqA (by kernel_rfl) (zSg_41 ya yl yf yw A L B W yx X t hw ht hz hd hX Q0 Q1 Q2 Q4 Q5 Q6 Q3 Q7 w hs)
theorem zSg_35 (ya yl yf yw:Value) (A:List Int) (L:PR) (B:List Bool) (W:List Int) (yx:Value) (X:List Int) (t:Int) (hw:Known pg (clsO zwO)) (ht:0≤t∧t≤255) (hz:ZK A L B W) (hd:¬ dtd (cI A) A.length (cR L) (cB B) W.length) (hX:X.length≤100) (Q0:(ltI 14 A.length)=false) (Q1:(ltI 14 L.length)=false) (Q2:(ltI 14 B.length)=false) (Q4:(ltI 100 W.length)=false) (Q5:(q42_48 A B L W)=true) (Q6:(q42_53 A B L W)=false) (Q3:(ltI 100 X.length)=false) (Q7:(q42_4 A B L W t)=true) (w:World) (hs:LN):Goes pg 170 zSgK33 ((q42_10 A B L W X ya yf yl yw yx)) (BaseW.H w hs) (OutH pg Try.f11 170 (.bool true) w):=by
 obtain ⟨hcl_A,hcl_L,hcl_B,hcl_W⟩:=hcZ42 A B L W
 have hcl_X:=cI_len X
 obtain ⟨hn,ha,he,hl,hw0⟩:=clE_zero hz
 have hW:=nw_le hz
 have hf:=fd_none hz hd
 have hr:=rdB_rng (B:=B) hz
 have he2:=he
 unfold eqP degI at he2
 have hA0:=ang_bd ha 0 (by omega)
 have hW1:1≤W.length:=by have:=deg_bd hn ha he 0 (by omega); omega
 have hk:=kt_bd (n:=W.length) ht hW1
 have Q8:=lF Q0
 have Q9:=lF Q1
 have Q10:=lF Q2
 have Q11:=lF Q4
 have Q12:=eqI_true Q5
 have Q13:=lF Q3
 refine Hd.goes_seqA (by kernel_rfl) ?_
 exact gL isN_e (gT cm (known_zs hw) 200 (T':=(q42_11 A B L W X ya yf yl yw yx)) (e:=.normal) (ps:=[]) [.go,.go,.go,.go,.go] (by kernel_rfl) (by kernel_rfl) trivial rfl) (Hd.en_n (zSg_38 ya yl yf yw A L B W yx X t hw ht hz hd hX Q0 Q1 Q2 Q4 Q5 Q6 Q3 Q7 w hs))
theorem zSg_32 (ya yl yf yw:Value) (A:List Int) (L:PR) (B:List Bool) (W:List Int) (yx:Value) (X:List Int) (t:Int) (hw:Known pg (clsO zwO)) (ht:0≤t∧t≤255) (hz:ZK A L B W) (hd:¬ dtd (cI A) A.length (cR L) (cB B) W.length) (hX:X.length≤100) (Q0:(ltI 14 A.length)=false) (Q1:(ltI 14 L.length)=false) (Q2:(ltI 14 B.length)=false) (Q4:(ltI 100 W.length)=false) (Q5:(q42_48 A B L W)=true) (Q6:(q42_53 A B L W)=false) (Q3:(ltI 100 X.length)=false) (Q7:(q42_4 A B L W t)=true) (w:World) (hs:LN):Goes pg 170 zSgK30 ((q42_19 A B L W X ya yf yl yw yx)) (BaseW.H w hs) (OutH pg Try.f11 170 (.bool true) w):=by
 obtain ⟨hcl_A,hcl_L,hcl_B,hcl_W⟩:=hcZ42 A B L W
 have hcl_X:=cI_len X
 obtain ⟨hn,ha,he,hl,hw0⟩:=clE_zero hz
 have hW:=nw_le hz
 have hf:=fd_none hz hd
 have hr:=rdB_rng (B:=B) hz
 have he2:=he
 unfold eqP degI at he2
 have hA0:=ang_bd ha 0 (by omega)
 have hW1:1≤W.length:=by have:=deg_bd hn ha he 0 (by omega); omega
 have hk:=kt_bd (n:=W.length) ht hW1
 have Q8:=lF Q0
 have Q9:=lF Q1
 have Q10:=lF Q2
 have Q11:=lF Q4
 have Q12:=eqI_true Q5
 have Q13:=lF Q3
 refine Hd.goes_seqA (by kernel_rfl) ?_
 exact gL isN_e (gT cm (known_zs hw) 200 (T':=(q42_10 A B L W X ya yf yl yw yx)) (e:=.normal) (ps:=[]) [.go,.go,.go,.go,.go,.go] (by kernel_rfl) (by kernel_rfl) trivial rfl) (Hd.en_n (zSg_35 ya yl yf yw A L B W yx X t hw ht hz hd hX Q0 Q1 Q2 Q4 Q5 Q6 Q3 Q7 w hs))
theorem zSg_29 (ya yl yf yw:Value) (A:List Int) (L:PR) (B:List Bool) (W:List Int) (yx:Value) (X:List Int) (t:Int) (hw:Known pg (clsO zwO)) (ht:0≤t∧t≤255) (hz:ZK A L B W) (hd:¬ dtd (cI A) A.length (cR L) (cB B) W.length) (hX:X.length≤100) (Q0:(ltI 14 A.length)=false) (Q1:(ltI 14 L.length)=false) (Q2:(ltI 14 B.length)=false) (Q4:(ltI 100 W.length)=false) (Q5:(q42_48 A B L W)=true) (Q6:(q42_53 A B L W)=false) (Q3:(ltI 100 X.length)=false) (w:World) (hs:LN):Goes pg 170 zSgK27 ((q42_1 A B L W X t ya yf yl yw yx)) (BaseW.H w hs) (OutH pg Try.f11 170 (.bool true) w):=by
 obtain ⟨hcl_A,hcl_L,hcl_B,hcl_W⟩:=hcZ42 A B L W
 have hcl_X:=cI_len X
 obtain ⟨hn,ha,he,hl,hw0⟩:=clE_zero hz
 have hW:=nw_le hz
 have hf:=fd_none hz hd
 have hr:=rdB_rng (B:=B) hz
 have he2:=he
 unfold eqP degI at he2
 have hA0:=ang_bd ha 0 (by omega)
 have hW1:1≤W.length:=by have:=deg_bd hn ha he 0 (by omega); omega
 have hk:=kt_bd (n:=W.length) ht hW1
 have Q8:=lF Q0
 have Q9:=lF Q1
 have Q10:=lF Q2
 have Q11:=lF Q4
 have Q12:=eqI_true Q5
 have Q13:=lF Q3
 refine Hd.goes_seqA (by kernel_rfl) ?_
 rcases bE (q42_4 A B L W t) with Q7 | Q7
 ·skip
  exact gL isN_e (gT cm (known_zs hw) 200 (T':=(q42_19 A B L W X ya yf yl yw yx)) (e:=.normal) (ps:=[(!eqI ((0:Int)) 0)=false,false=false,(!eqI ((0:Int)) 0)=false,false=false,(!eqI ((0:Int)) 0)=false,false=false,false=false,(!(q42_4 A B L W t))=false]) [.go,.go,.go,.b false,.go,.b false,.go,.go,.go,.b false,.go,.b false,.go,.go,.go,.b false,.go,.b false,.go,.b false,.go,.go,.b false] (by kernel_rfl) (by kernel_rfl) ⟨rfl,rfl,rfl,rfl,rfl,rfl,rfl,(by rw [Q7]; rfl),trivial⟩ rfl) (Hd.en_n (zSg_32 ya yl yf yw A L B W yx X t hw ht hz hd hX Q0 Q1 Q2 Q4 Q5 Q6 Q3 Q7 w hs))
 ·skip
  exact absZ Q7 (and2 (hot_eq hk) (hot_eq hk))
theorem zSg_26 (ya yl yf yw:Value) (A:List Int) (L:PR) (B:List Bool) (W:List Int) (yx:Value) (X:List Int) (t:Int) (hw:Known pg (clsO zwO)) (ht:0≤t∧t≤255) (hz:ZK A L B W) (hd:¬ dtd (cI A) A.length (cR L) (cB B) W.length) (hX:X.length≤100) (Q0:(ltI 14 A.length)=false) (Q1:(ltI 14 L.length)=false) (Q2:(ltI 14 B.length)=false) (Q4:(ltI 100 W.length)=false) (Q5:(q42_48 A B L W)=true) (Q6:(q42_53 A B L W)=false) (Q3:(ltI 100 X.length)=false) (w:World) (hs:LN):Goes pg 170 zSgK24 ((q42_2 A B L W X t ya yf yl yw yx)) (BaseW.H w hs) (OutH pg Try.f11 170 (.bool true) w):=by
 obtain ⟨hcl_A,hcl_L,hcl_B,hcl_W⟩:=hcZ42 A B L W
 have hcl_X:=cI_len X
 obtain ⟨hn,ha,he,hl,hw0⟩:=clE_zero hz
 have hW:=nw_le hz
 have hf:=fd_none hz hd
 have hr:=rdB_rng (B:=B) hz
 have he2:=he
 unfold eqP degI at he2
 have hA0:=ang_bd ha 0 (by omega)
 have hW1:1≤W.length:=by have:=deg_bd hn ha he 0 (by omega); omega
 have hk:=kt_bd (n:=W.length) ht hW1
 have Q8:=lF Q0
 have Q9:=lF Q1
 have Q10:=lF Q2
 have Q11:=lF Q4
 have Q12:=eqI_true Q5
 have Q13:=lF Q3
 refine Hd.goes_seqA (by kernel_rfl) ?_
 exact gL isN_e (gT cm (known_zs hw) 200 (T':=(q42_1 A B L W X t ya yf yl yw yx)) (e:=.normal) (ps:=[IsLampK 1 2 1 1 (cI A) A.length (cR L) L.length (cB B) B.length (cI W) W.length,ZK A L B W,fdAll (cB B) (cR L) A.length=none]) [.go,.go,.go,.go,.go,.go,.go] (by kernel_rfl) (by kernel_rfl) ⟨⟨rfl,rfl,rfl,rfl,A,L,B,W,rfl,rfl,rfl,rfl,rfl,rfl,rfl,rfl⟩,hz,hf,trivial⟩ rfl) (Hd.en_n (zSg_29 ya yl yf yw A L B W yx X t hw ht hz hd hX Q0 Q1 Q2 Q4 Q5 Q6 Q3 w hs))
theorem zSg_23 (ya yl yf yw:Value) (A:List Int) (L:PR) (B:List Bool) (W:List Int) (yx:Value) (X:List Int) (t:Int) (hw:Known pg (clsO zwO)) (ht:0≤t∧t≤255) (hz:ZK A L B W) (hd:¬ dtd (cI A) A.length (cR L) (cB B) W.length) (hX:X.length≤100) (Q0:(ltI 14 A.length)=false) (Q1:(ltI 14 L.length)=false) (Q2:(ltI 14 B.length)=false) (Q4:(ltI 100 W.length)=false) (Q5:(q42_48 A B L W)=true) (Q6:(q42_53 A B L W)=false) (Q3:(ltI 100 X.length)=false) (w:World) (hs:LN):Goes pg 170 zSgK21 ((q42_3 A B L W X t ya yf yl yw yx)) (BaseW.H w hs) (OutH pg Try.f11 170 (.bool true) w):=by
 obtain ⟨hcl_A,hcl_L,hcl_B,hcl_W⟩:=hcZ42 A B L W
 have hcl_X:=cI_len X
 obtain ⟨hn,ha,he,hl,hw0⟩:=clE_zero hz
 have hW:=nw_le hz
 have hf:=fd_none hz hd
 have hr:=rdB_rng (B:=B) hz
 have he2:=he
 unfold eqP degI at he2
 have hA0:=ang_bd ha 0 (by omega)
 have hW1:1≤W.length:=by have:=deg_bd hn ha he 0 (by omega); omega
 have hk:=kt_bd (n:=W.length) ht hW1
 have Q8:=lF Q0
 have Q9:=lF Q1
 have Q10:=lF Q2
 have Q11:=lF Q4
 have Q12:=eqI_true Q5
 have Q13:=lF Q3
 refine Hd.goes_seqA (by kernel_rfl) ?_
 exact gL isN_e (gT cm (known_zs hw) 200 (T':=(q42_2 A B L W X t ya yf yl yw yx)) (e:=.normal) (ps:=[0 < A.length,loadL pg (cI A) (0 * 1) 2=some (.v (.int .i64 (intAt (cI A) (0 * 1)))),inR .i64 (intAt (cI A) (0 * 1) + (IntKind.i64.wrap t).tmod W.length),IsLampK 1 2 1 1 (cI A) A.length (cR L) L.length (cB B) B.length (cI W) W.length,ZK A L B W,fdAll (cB B) (cR L) A.length=none,intAt (cI A) (0 * 1)≤intAt (cI A) (0 * 1) + (IntKind.i64.wrap t).tmod W.length∧intAt (cI A) (0 * 1) + (IntKind.i64.wrap t).tmod W.length≤intAt (cI A) ((A.length - 1) * 1)]) [.go,.go,.go,.sym,.sym,.go,.go,.go,.go,.go,.go,.go,.go] (by kernel_rfl) (by kernel_rfl) ⟨(by omega),(cI_load (by omega) 2 (u2) rfl),(iRZ42 (by omega) (by omega)),⟨rfl,rfl,rfl,rfl,A,L,B,W,rfl,rfl,rfl,rfl,rfl,rfl,rfl,rfl⟩,hz,hf,(by constructor <;> omega),trivial⟩ rfl) (Hd.en_n (zSg_26 ya yl yf yw A L B W yx X t hw ht hz hd hX Q0 Q1 Q2 Q4 Q5 Q6 Q3 w hs))
theorem zSg_20 (ya yl yf yw:Value) (A:List Int) (L:PR) (B:List Bool) (W:List Int) (yx:Value) (X:List Int) (t:Int) (hw:Known pg (clsO zwO)) (ht:0≤t∧t≤255) (hz:ZK A L B W) (hd:¬ dtd (cI A) A.length (cR L) (cB B) W.length) (hX:X.length≤100) (Q0:(ltI 14 A.length)=false) (Q1:(ltI 14 L.length)=false) (Q2:(ltI 14 B.length)=false) (Q4:(ltI 100 W.length)=false) (Q5:(eqI (clE (cI A) A.length (cR L) L.length B.length (cI W) W.length) 0)=true) (Q6:(clB (dtd (cI A) A.length (cR L) (cB B) W.length))=false) (Q3:(ltI 100 X.length)=false) (w:World) (hs:LN):Goes pg 170 zSgK18 ((q42_15 A B L W X t ya yf yl yw yx)) (BaseW.H w hs) (OutH pg Try.f11 170 (.bool true) w):=by
 obtain ⟨hcl_A,hcl_L,hcl_B,hcl_W⟩:=hcZ42 A B L W
 have hcl_X:=cI_len X
 obtain ⟨hn,ha,he,hl,hw0⟩:=clE_zero hz
 have hW:=nw_le hz
 have hf:=fd_none hz hd
 have hr:=rdB_rng (B:=B) hz
 have he2:=he
 unfold eqP degI at he2
 have hA0:=ang_bd ha 0 (by omega)
 have hW1:1≤W.length:=by have:=deg_bd hn ha he 0 (by omega); omega
 have hk:=kt_bd (n:=W.length) ht hW1
 have Q8:=lF Q0
 have Q9:=lF Q1
 have Q10:=lF Q2
 have Q11:=lF Q4
 have Q12:=eqI_true Q5
 have Q13:=lF Q3
 refine Hd.goes_seqA (by kernel_rfl) ?_
 exact gL isN_e (gT cm (known_zs hw) 200 (T':=(q42_3 A B L W X t ya yf yl yw yx)) (e:=.normal) (ps:=[0 + W.length * (0 + 1)≤((splice (repL W.length (List.map AV.v (Value.int IntKind.i64 0).cells.toList)) (0 + ((IntKind.i64.wrap t).tmod W.length).toNat * 1) [(.v (.int .i64 (.ofNat 1)))]):List AV).length,W.length≤W.length,IsLampK 1 2 1 (0 + 1) (cI A) A.length (cR L) L.length (cB B) B.length (List.take (W.length * (0 + 1)) (List.drop 0 (splice (repL W.length (List.map AV.v (Value.int IntKind.i64 0).cells.toList)) (0 + ((IntKind.i64.wrap t).tmod W.length).toNat * 1) [.v (.int .i64 ((1:Int)))]))) W.length,clE (cI A) A.length (cR L) L.length B.length (List.take (W.length * (0 + 1)) (List.drop 0 (splice (repL W.length (List.map AV.v (Value.int IntKind.i64 0).cells.toList)) (0 + ((IntKind.i64.wrap t).tmod W.length).toNat * 1) [.v (.int .i64 ((1:Int)))]))) W.length=0,fdAll (cB B) (cR L) A.length=none]) [.go,.go,.go,.go,.go,.go,.go] (by kernel_rfl) (by kernel_rfl) ⟨(hot_len (k:=((IntKind.i64.wrap t).tmod W.length).toNat) (by omega) (by omega)),(Nat.le_refl _),⟨rfl,rfl,rfl,rfl,A,L,B,_,rfl,rfl,rfl,rfl,rfl,rfl,(hot_take (k:=((IntKind.i64.wrap t).tmod W.length).toNat) (by omega) (by omega)),(tI_len _ _).symm⟩,(hot_clE hz (k:=((IntKind.i64.wrap t).tmod W.length).toNat) (by omega) (by omega)),hf,trivial⟩ rfl) (Hd.en_n (zSg_23 ya yl yf yw A L B W yx X t hw ht hz hd hX Q0 Q1 Q2 Q4 Q5 Q6 Q3 w hs))
theorem zSg_17 (ya yl yf yw:Value) (A:List Int) (L:PR) (B:List Bool) (W:List Int) (yx:Value) (X:List Int) (t:Int) (hw:Known pg (clsO zwO)) (ht:0≤t∧t≤255) (hz:ZK A L B W) (hd:¬ dtd (cI A) A.length (cR L) (cB B) W.length) (hX:X.length≤100) (Q0:(ltI 14 A.length)=false) (Q1:(ltI 14 L.length)=false) (Q2:(ltI 14 B.length)=false) (Q4:(ltI 100 W.length)=false) (Q5:(eqI (clE (cI A) A.length (cR L) L.length B.length (cI W) W.length) 0)=true) (Q6:(clB (dtd (cI A) A.length (cR L) (cB B) W.length))=false) (Q3:(ltI 100 X.length)=false) (w:World) (hs:LN):Goes pg 170 zSgK15 ((q42_17 A B L W X t ya yf yl yw yx)) (BaseW.H w hs) (OutH pg Try.f11 170 (.bool true) w):=by
 obtain ⟨hcl_A,hcl_L,hcl_B,hcl_W⟩:=hcZ42 A B L W
 have hcl_X:=cI_len X
 obtain ⟨hn,ha,he,hl,hw0⟩:=clE_zero hz
 have hW:=nw_le hz
 have hf:=fd_none hz hd
 have hr:=rdB_rng (B:=B) hz
 have he2:=he
 unfold eqP degI at he2
 have hA0:=ang_bd ha 0 (by omega)
 have hW1:1≤W.length:=by have:=deg_bd hn ha he 0 (by omega); omega
 have hk:=kt_bd (n:=W.length) ht hW1
 have Q8:=lF Q0
 have Q9:=lF Q1
 have Q10:=lF Q2
 have Q11:=lF Q4
 have Q12:=eqI_true Q5
 have Q13:=lF Q3
 refine Hd.goes_seqA (by kernel_rfl) ?_
 exact gL isN_e (gT cm (known_zs hw) 200 (T':=(q42_15 A B L W X t ya yf yl yw yx)) (e:=.normal) (ps:=[0≤(IntKind.i64.wrap t).tmod W.length,((IntKind.i64.wrap t).tmod W.length).toNat < W.length,0 + ((IntKind.i64.wrap t).tmod W.length).toNat * 1 + ([(.v (.int .i64 (.ofNat 1)))]:List AV).length≤((repL W.length (List.map AV.v (Value.int IntKind.i64 0).cells.toList)):List AV).length]) [.go,.go,.go,.nat,.sym] (by kernel_rfl) (by kernel_rfl) ⟨hk.1,(by omega),(by show 0 + ((IntKind.i64.wrap t).tmod W.length).toNat * 1 + 1≤(repL W.length [AV.v (.int .i64 0)]).length; rw [repL_len]; show _≤W.length * 1; omega),trivial⟩ rfl) (Hd.en_n (zSg_20 ya yl yf yw A L B W yx X t hw ht hz hd hX Q0 Q1 Q2 Q4 Q5 Q6 Q3 w hs))
theorem zSg_14 (ya yl yf yw:Value) (A:List Int) (L:PR) (B:List Bool) (W:List Int) (yx:Value) (X:List Int) (t:Int) (hw:Known pg (clsO zwO)) (ht:0≤t∧t≤255) (hz:ZK A L B W) (hd:¬ dtd (cI A) A.length (cR L) (cB B) W.length) (hX:X.length≤100) (Q0:(ltI 14 A.length)=false) (Q1:(ltI 14 L.length)=false) (Q2:(ltI 14 B.length)=false) (Q4:(ltI 100 W.length)=false) (Q5:(q42_48 A B L W)=true) (Q6:(q42_53 A B L W)=false) (Q3:(ltI 100 X.length)=false) (w:World) (hs:LN):Goes pg 170 zSgK12 ((q42_18 A B L W X t ya yf yl yw yx)) (BaseW.H w hs) (OutH pg Try.f11 170 (.bool true) w):=by
 obtain ⟨hcl_A,hcl_L,hcl_B,hcl_W⟩:=hcZ42 A B L W
 have hcl_X:=cI_len X
 obtain ⟨hn,ha,he,hl,hw0⟩:=clE_zero hz
 have hW:=nw_le hz
 have hf:=fd_none hz hd
 have hr:=rdB_rng (B:=B) hz
 have he2:=he
 unfold eqP degI at he2
 have hA0:=ang_bd ha 0 (by omega)
 have hW1:1≤W.length:=by have:=deg_bd hn ha he 0 (by omega); omega
 have hk:=kt_bd (n:=W.length) ht hW1
 have Q8:=lF Q0
 have Q9:=lF Q1
 have Q10:=lF Q2
 have Q11:=lF Q4
 have Q12:=eqI_true Q5
 have Q13:=lF Q3
 refine Hd.goes_seqA (by kernel_rfl) ?_
 exact gL isN_e (gT cm (known_zs hw) 200 (T':=(q42_17 A B L W X t ya yf yl yw yx)) (e:=.normal) (ps:=[W.length≤W.length,W.length≤1000000]) [.go,.go,.go,.sym,.go,.go] (by kernel_rfl) (by kernel_rfl) ⟨(Nat.le_refl _),(by omega),trivial⟩ rfl) (Hd.en_n (zSg_17 ya yl yf yw A L B W yx X t hw ht hz hd hX Q0 Q1 Q2 Q4 Q5 Q6 Q3 w hs))
theorem zSg_11 (ya yl yf yw:Value) (A:List Int) (L:PR) (B:List Bool) (W:List Int) (yx:Value) (X:List Int) (t:Int) (hw:Known pg (clsO zwO)) (ht:0≤t∧t≤255) (hz:ZK A L B W) (hd:¬ dtd (cI A) A.length (cR L) (cB B) W.length) (hX:X.length≤100) (Q0:(ltI 14 A.length)=false) (Q1:(ltI 14 L.length)=false) (Q2:(ltI 14 B.length)=false) (Q4:(ltI 100 W.length)=false) (Q5:(q42_48 A B L W)=true) (Q6:(q42_53 A B L W)=false) (Q3:(ltI 100 X.length)=false) (w:World) (hs:LN):Goes pg 170 zSgK9 ((q42_23 A B L W X t ya yf yl yw yx)) (BaseW.H w hs) (OutH pg Try.f11 170 (.bool true) w):=by
 obtain ⟨hcl_A,hcl_L,hcl_B,hcl_W⟩:=hcZ42 A B L W
 have hcl_X:=cI_len X
 obtain ⟨hn,ha,he,hl,hw0⟩:=clE_zero hz
 have hW:=nw_le hz
 have hf:=fd_none hz hd
 have hr:=rdB_rng (B:=B) hz
 have he2:=he
 unfold eqP degI at he2
 have hA0:=ang_bd ha 0 (by omega)
 have hW1:1≤W.length:=by have:=deg_bd hn ha he 0 (by omega); omega
 have hk:=kt_bd (n:=W.length) ht hW1
 have Q8:=lF Q0
 have Q9:=lF Q1
 have Q10:=lF Q2
 have Q11:=lF Q4
 have Q12:=eqI_true Q5
 have Q13:=lF Q3
 refine Hd.goes_seqA (by kernel_rfl) ?_
 exact gL isN_e (gT cm (known_zs hw) 200 (T':=(q42_18 A B L W X t ya yf yl yw yx)) (e:=.normal) (ps:=[]) [.go,.go,.go] (by kernel_rfl) (by kernel_rfl) trivial rfl) (Hd.en_n (zSg_14 ya yl yf yw A L B W yx X t hw ht hz hd hX Q0 Q1 Q2 Q4 Q5 Q6 Q3 w hs))
theorem zSg_8 (ya yl yf yw:Value) (A:List Int) (L:PR) (B:List Bool) (W:List Int) (yx:Value) (X:List Int) (t:Int) (hw:Known pg (clsO zwO)) (ht:0≤t∧t≤255) (hz:ZK A L B W) (hd:¬ dtd (cI A) A.length (cR L) (cB B) W.length) (hX:X.length≤100) (Q0:(ltI 14 A.length)=false) (Q1:(ltI 14 L.length)=false) (Q2:(ltI 14 B.length)=false) (Q4:(ltI 100 W.length)=false) (Q5:(q42_48 A B L W)=true) (Q6:(q42_53 A B L W)=false) (Q3:(ltI 100 X.length)=false) (w:World) (hs:LN):Goes pg 170 zSgK6 ((q42_26 A B L W X t ya yf yl yw yx)) (BaseW.H w hs) (OutH pg Try.f11 170 (.bool true) w):=by
 obtain ⟨hcl_A,hcl_L,hcl_B,hcl_W⟩:=hcZ42 A B L W
 have hcl_X:=cI_len X
 obtain ⟨hn,ha,he,hl,hw0⟩:=clE_zero hz
 have hW:=nw_le hz
 have hf:=fd_none hz hd
 have hr:=rdB_rng (B:=B) hz
 have he2:=he
 unfold eqP degI at he2
 have hA0:=ang_bd ha 0 (by omega)
 have hW1:1≤W.length:=by have:=deg_bd hn ha he 0 (by omega); omega
 have hk:=kt_bd (n:=W.length) ht hW1
 have Q8:=lF Q0
 have Q9:=lF Q1
 have Q10:=lF Q2
 have Q11:=lF Q4
 have Q12:=eqI_true Q5
 have Q13:=lF Q3
 refine Hd.goes_seqA (by kernel_rfl) ?_
 exact gL isN_e (gT cm (known_zs hw) 200 (T':=(q42_23 A B L W X t ya yf yl yw yx)) (e:=.normal) (ps:=[(W.length:Int)≠0]) [.go,.go,.go,.go,.go,.go,.go] (by kernel_rfl) (by kernel_rfl) ⟨(by omega),trivial⟩ rfl) (Hd.en_n (zSg_11 ya yl yf yw A L B W yx X t hw ht hz hd hX Q0 Q1 Q2 Q4 Q5 Q6 Q3 w hs))
theorem zSg_5 (ya yl yf yw:Value) (A:List Int) (L:PR) (B:List Bool) (W:List Int) (yx:Value) (X:List Int) (t:Int) (hw:Known pg (clsO zwO)) (ht:0≤t∧t≤255) (hz:ZK A L B W) (hd:¬ dtd (cI A) A.length (cR L) (cB B) W.length) (hX:X.length≤100) (w:World) (hs:LN):Goes pg 170 zSgK3 ((q42_24 A B L W X t ya yf yl yw yx)) (BaseW.H w hs) (OutH pg Try.f11 170 (.bool true) w):=by
 obtain ⟨hcl_A,hcl_L,hcl_B,hcl_W⟩:=hcZ42 A B L W
 have hcl_X:=cI_len X
 obtain ⟨hn,ha,he,hl,hw0⟩:=clE_zero hz
 have hW:=nw_le hz
 have hf:=fd_none hz hd
 have hr:=rdB_rng (B:=B) hz
 have he2:=he
 unfold eqP degI at he2
 have hA0:=ang_bd ha 0 (by omega)
 have hW1:1≤W.length:=by have:=deg_bd hn ha he 0 (by omega); omega
 have hk:=kt_bd (n:=W.length) ht hW1
 refine Hd.goes_seqA (by kernel_rfl) ?_
 rcases bE (ltI 14 A.length) with Q0 | Q0
 ·skip
  have Q8:=lT Q0
  exact gL isR_e (gT cm (known_zs hw) 200 (T':=q42_56) (e:=.ret) (ps:=[ltI 14 A.length=true,true=true,true=true,true=true,true=true,true=true,true=true,true=true,true=true,true=true,true=true,true=true,(!true)=false,false=false,false=false,false=false,false=false,false=false,(!false)=true,true=true,true=true,true=true]) [.go,.go,.go,.go,.go,.go,.go,.go,.go,.go,.go,.b true,.b true,.b true,.b true,.go,.go,.b true,.b true,.b true,.b true,.go,.go,.b true,.b true,.b true,.b true,.go,.go,.go,.go,.b false,.b false,.b false,.go,.go,.b false,.b false,.b false,.go,.go,.go,.go,.b true,.b true,.b true,.go,.b true,.go] (by kernel_rfl) (by kernel_rfl) ⟨Q0,rfl,rfl,rfl,rfl,rfl,rfl,rfl,rfl,rfl,rfl,rfl,rfl,rfl,rfl,rfl,rfl,rfl,rfl,rfl,rfl,rfl,trivial⟩ rfl) (Hd.en_o (by intro h; cases h) (Hd.en_eq (r:=(.bool .true)) (by rfl) (Hd.en_ret (v:=(.v (.bool .true))) (by kernel_rfl) rfl)))
 ·skip
  have Q8:=lF Q0
  rcases bE (ltI 14 L.length) with Q1 | Q1
  ·skip
   have Q9:=lT Q1
   exact gL isR_e (gT cm (known_zs hw) 200 (T':=q42_56) (e:=.ret) (ps:=[ltI 14 A.length=false,false=false,false=false,false=false,ltI 14 L.length=true,true=true,true=true,true=true,true=true,true=true,true=true,true=true,(!true)=false,false=false,false=false,false=false,false=false,false=false,(!false)=true,true=true,true=true,true=true]) [.go,.go,.go,.go,.go,.go,.go,.go,.go,.go,.go,.b false,.go,.b false,.go,.b false,.go,.b false,.go,.go,.go,.b true,.b true,.b true,.b true,.go,.go,.b true,.b true,.b true,.b true,.go,.go,.go,.go,.b false,.b false,.b false,.go,.go,.b false,.b false,.b false,.go,.go,.go,.go,.b true,.b true,.b true,.go,.b true,.go] (by kernel_rfl) (by kernel_rfl) ⟨Q0,rfl,rfl,rfl,Q1,rfl,rfl,rfl,rfl,rfl,rfl,rfl,rfl,rfl,rfl,rfl,rfl,rfl,rfl,rfl,rfl,rfl,trivial⟩ rfl) (Hd.en_o (by intro h; cases h) (Hd.en_eq (r:=(.bool .true)) (by rfl) (Hd.en_ret (v:=(.v (.bool .true))) (by kernel_rfl) rfl)))
  ·skip
   have Q9:=lF Q1
   rcases bE (ltI 14 B.length) with Q2 | Q2
   ·skip
    have Q10:=lT Q2
    exact gL isR_e (gT cm (known_zs hw) 200 (T':=q42_56) (e:=.ret) (ps:=[ltI 14 A.length=false,false=false,false=false,false=false,ltI 14 L.length=false,false=false,false=false,false=false,ltI 14 B.length=true,true=true,true=true,true=true,(!true)=false,false=false,false=false,false=false,false=false,false=false,(!false)=true,true=true,true=true,true=true]) [.go,.go,.go,.go,.go,.go,.go,.go,.go,.go,.go,.b false,.go,.b false,.go,.b false,.go,.b false,.go,.go,.go,.b false,.go,.b false,.go,.b false,.go,.b false,.go,.go,.go,.b true,.b true,.b true,.b true,.go,.go,.go,.go,.b false,.b false,.b false,.go,.go,.b false,.b false,.b false,.go,.go,.go,.go,.b true,.b true,.b true,.go,.b true,.go] (by kernel_rfl) (by kernel_rfl) ⟨Q0,rfl,rfl,rfl,Q1,rfl,rfl,rfl,Q2,rfl,rfl,rfl,rfl,rfl,rfl,rfl,rfl,rfl,rfl,rfl,rfl,rfl,trivial⟩ rfl) (Hd.en_o (by intro h; cases h) (Hd.en_eq (r:=(.bool .true)) (by rfl) (Hd.en_ret (v:=(.v (.bool .true))) (by kernel_rfl) rfl)))
   ·skip
    have Q10:=lF Q2
    rcases bE (ltI 100 W.length) with Q4 | Q4
    ·skip
     have Q11:=lT Q4
     exact gL isR_e (gT cm (known_zs hw) 200 (T':=q42_56) (e:=.ret) (ps:=[ltI 14 A.length=false,false=false,false=false,false=false,ltI 14 L.length=false,false=false,false=false,false=false,ltI 14 B.length=false,false=false,false=false,false=false,(!ltI 100 W.length)=false,false=false,false=false,false=false,false=false,false=false,(!false)=true,true=true,true=true,true=true]) [.go,.go,.go,.go,.go,.go,.go,.go,.go,.go,.go,.b false,.go,.b false,.go,.b false,.go,.b false,.go,.go,.go,.b false,.go,.b false,.go,.b false,.go,.b false,.go,.go,.go,.b false,.go,.b false,.go,.b false,.go,.b false,.go,.go,.go,.go,.go,.b false,.b false,.b false,.go,.go,.b false,.b false,.b false,.go,.go,.go,.go,.b true,.b true,.b true,.go,.b true,.go] (by kernel_rfl) (by kernel_rfl) ⟨Q0,rfl,rfl,rfl,Q1,rfl,rfl,rfl,Q2,rfl,rfl,rfl,(by rw [Q4]; rfl),rfl,rfl,rfl,rfl,rfl,rfl,rfl,rfl,rfl,trivial⟩ rfl) (Hd.en_o (by intro h; cases h) (Hd.en_eq (r:=(.bool .true)) (by rfl) (Hd.en_ret (v:=(.v (.bool .true))) (by kernel_rfl) rfl)))
    ·skip
     have Q11:=lF Q4
     rcases bE (eqI (clE (cI A) A.length (cR L) L.length B.length (cI W) W.length) 0) with Q5 | Q5
     ·skip
      have Q12:=eqI_true Q5
      rcases bE (clB (dtd (cI A) A.length (cR L) (cB B) W.length)) with Q6 | Q6
      ·skip
       exact absurd (clB_true.1 Q6) hd
      ·skip
       rcases bE (ltI 100 X.length) with Q3 | Q3
       ·skip
        have Q13:=lT Q3
        exfalso
        have h9:=lT Q3
        omega
       ·skip
        have Q13:=lF Q3
        exact gL isN_e (gT cm (known_zs hw) 200 (T':=(q42_26 A B L W X t ya yf yl yw yx)) (e:=.normal) (ps:=[ltI 14 A.length=false,false=false,false=false,false=false,ltI 14 L.length=false,false=false,false=false,false=false,ltI 14 B.length=false,false=false,false=false,false=false,(!ltI 100 W.length)=true,true=true,IsLampK 1 2 1 1 (cI A) A.length (cR L) L.length (cB B) B.length (cI W) W.length,true=true,eqI (clE (cI A) A.length (cR L) L.length B.length (cI W) W.length) 0=true,true=true,IsLampK 1 2 1 1 (cI A) A.length (cR L) L.length (cB B) B.length (cI W) W.length,ZK A L B W,true=true,(!!clB (dtd (cI A) A.length (cR L) (cB B) W.length))=false,false=false,false=false,ltI 100 X.length=false]) [.go,.go,.go,.go,.go,.go,.go,.go,.go,.go,.go,.b false,.go,.b false,.go,.b false,.go,.b false,.go,.go,.go,.b false,.go,.b false,.go,.b false,.go,.b false,.go,.go,.go,.b false,.go,.b false,.go,.b false,.go,.b false,.go,.go,.go,.go,.go,.b true,.go,.b true,.b true,.go,.go,.go,.b true,.go,.b true,.b true,.go,.go,.go,.go,.go,.b false,.go,.b false,.go,.b false,.go,.go,.b false] (by kernel_rfl) (by kernel_rfl) ⟨Q0,rfl,rfl,rfl,Q1,rfl,rfl,rfl,Q2,rfl,rfl,rfl,(by rw [Q4]; rfl),rfl,⟨rfl,rfl,rfl,rfl,A,L,B,W,rfl,rfl,rfl,rfl,rfl,rfl,rfl,rfl⟩,rfl,Q5,rfl,⟨rfl,rfl,rfl,rfl,A,L,B,W,rfl,rfl,rfl,rfl,rfl,rfl,rfl,rfl⟩,hz,rfl,(by rw [Q6]; rfl),rfl,rfl,Q3,trivial⟩ rfl) (Hd.en_n (zSg_8 ya yl yf yw A L B W yx X t hw ht hz hd hX Q0 Q1 Q2 Q4 Q5 Q6 Q3 w hs))
     ·skip
      have Q12:=eqI_false Q5
      exact absurd hz (eqI_false Q5)
theorem zSg_2 (ya yl yf yw:Value) (A:List Int) (L:PR) (B:List Bool) (W:List Int) (yx:Value) (X:List Int) (t:Int) (hw:Known pg (clsO zwO)) (ht:0≤t∧t≤255) (hz:ZK A L B W) (hd:¬ dtd (cI A) A.length (cR L) (cB B) W.length) (hX:X.length≤100) (w:World) (hs:LN):Goes pg 170 zSgK1 ((q42_30 A B L W X t ya yf yl yw yx)) (BaseW.H w hs) (OutH pg Try.f11 170 (.bool true) w):=by
 obtain ⟨hcl_A,hcl_L,hcl_B,hcl_W⟩:=hcZ42 A B L W
 have hcl_X:=cI_len X
 obtain ⟨hn,ha,he,hl,hw0⟩:=clE_zero hz
 have hW:=nw_le hz
 have hf:=fd_none hz hd
 have hr:=rdB_rng (B:=B) hz
 have he2:=he
 unfold eqP degI at he2
 have hA0:=ang_bd ha 0 (by omega)
 have hW1:1≤W.length:=by have:=deg_bd hn ha he 0 (by omega); omega
 have hk:=kt_bd (n:=W.length) ht hW1
 refine Hd.goes_seqA (by kernel_rfl) ?_
 exact gL isN_e (gT cm (known_zs hw) 200 (T':=(q42_24 A B L W X t ya yf yl yw yx)) (e:=.normal) (ps:=[]) [.go,.go] (by kernel_rfl) (by kernel_rfl) trivial rfl) (Hd.en_n (zSg_5 ya yl yf yw A L B W yx X t hw ht hz hd hX w hs))
theorem zs_g (ya yl yf yw:Value) (A:List Int) (L:PR) (B:List Bool) (W:List Int) (yx:Value) (X:List Int) (t:Int) (hw:Known pg (clsO zwO)) (ht:0≤t∧t≤255) (hz:ZK A L B W) (hd:¬ dtd (cI A) A.length (cR L) (cB B) W.length) (hX:X.length≤100):GivesA pg 11 [.agg (q42_43 A B L W ya yf yl yw),.xl yx X.length 1 (cI X),.v (.int .u8 t)] (.bool true) :=
 givesA_partsH 170 Try.func11 (by kernel_rfl) (by kernel_rfl) (by kernel_rfl) (fun w=>goes_less (by kernel_rfl) (by kernel_rfl) (by kernel_rfl) (by kernel_rfl) (zSg_2 ya yl yf yw A L B W yx X t hw ht hz hd hX w []))
theorem law_zsums (hw:Known pg (clsO zwO)) (ya yl yf yw:Value) (A:List Int) (L:PR) (B:List Bool) (W:List Int) (yx:Value) (X:List Int) (t:Int) (ht:0≤t∧t≤255):GivesA pg 11 [.agg (q42_43 A B L W ya yf yl yw),.xl yx X.length 1 (cI X),.v (.int .u8 t)] (.bool true):=by
 by_cases hz:ZK A L B W
 ·by_cases hd:dtd (cI A) A.length (cR L) (cB B) W.length
  ·exact zs_d ya yl yf yw A L B W yx X t hw ht hz hd
  ·by_cases hX:100 < X.length
   ·exact zs_x ya yl yf yw A L B W yx X t hw ht hz hd hX
   ·exact zs_g ya yl yf yw A L B W yx X t hw ht hz hd (by omega)
 ·exact zs_c ya yl yf yw A L B W yx X t hw ht hz
end
end Go.Proofs.Ytldekgkjofgacaa
