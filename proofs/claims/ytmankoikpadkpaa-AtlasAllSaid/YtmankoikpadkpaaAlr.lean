/- The law of all that can be seen answers true for all plans and all numbers. There are no conditions. -/
import Derived.Test.YtmankoikpadkpaaRg
import Derived.Test.YtmankoikpadkpaaRw
import Derived.Test.YtmankoikpadkpaaA5
import Derived.Test.YtmankoikpadkpaaAw2
set_option linter.all false
namespace Go.Proofs.Ytmankoikpadkpaa
open Go.ChangeShapes Go.WideShapes Go.ChangeAt Go.RowKit
set_option maxRecDepth 100000 in
theorem atlasAll_lifted (os:Os) (started:os.Started) (H:Type) (enc:TypeId×Value→H) :
  ReturnsInHanded {} Try.checked os 10 .any (Rows.atlasAllSpec.pre6 enc Try.prog Try.f10 Rows.atlasAllRow.domain false) (Rows.atlasAllSpec.post enc Try.prog Try.f10 false true false false):=by
 refine returnsInHanded_of_change (C:=Try.checked) ownT started (by kernel_rfl) Try.func10
  (ChangeSpec.witness6 (enc:=enc) (C:=Try.checked) false ⟨#[],#[.agg #[.int .i64 0,.slice none 0 0],.int .u8 0],[]⟩ 8 (by kernel_rfl) (by kernel_rfl) (by kernel_rfl) (by kernel_rfl)) ?_
 intro W base args ds gs before hval0 hW hcnd _
 have hval:∀ (j:Nat) t v,Try.f10.params[j]? = some t→args[j]? = some v→Value.okWide Try.prog W .any base t v:=hval0
 have hW':=hW
 obtain ⟨p,q,hA0,hV,rfl,hfz,hnd⟩:=hW
 obtain ⟨rfl,rfl⟩:=trodVars_none hV
 have hA:DataW.TrodAll enc Try.prog W 0 (fun _=>true) true Try.f10.params.toList args.toList ds p:=hA0
 have hAA:=hA
 rw [Try.params10] at hA hval
 obtain ⟨v0,vs0,d0,ds0,p0,q0,hargs,rfl,hp0,h0,r0⟩:=trodAll_cons hA
 obtain ⟨v1,vs1,d1,ds1,p1,q1,rfl,rfl,hp1,h1,r1⟩:=trodAll_cons r0
 obtain ⟨rfl,rfl,rfl⟩:=trodAll_nil r1
 obtain rfl:args = #[v0,v1]:=by cases args; simp_all
 clear hval0
 simp only [List.append_nil] at hW'
 obtain ⟨n,y,R,rfl,hden⟩:=open_plan Try.underlying24 rfl rfl Try.underlying3 (by kernel_rfl) Try.underlying22 (by kernel_rfl) (by kernel_rfl) Try.underlying29 (by kernel_rfl) (by kernel_rfl) (by kernel_rfl) (hval 0 _ v0 rfl rfl) h0
 obtain ⟨b,rfl,w_b⟩:=open_num Try.underlying5 (hval 1 _ v1 rfl rfl) h1
 have hw:Ev.Known Try.prog (Ev.clsO wkC):=Ev.gives_closed AtlasWorks_known
 refine (callsG (all_law hw n y R b (show 0≤b∧b≤255 from wf_bd w_b)) W (xs:=[.agg #[.int .i64 n,y],.int .u8 b]) (denL_cons (hden) (denL_cons rfl (rfl)))).mono fun e W' ⟨he,hb⟩=>?_
 subst he
 exact ⟨_,rfl,rowG laidG hW' hAA hb Try.underlying4 (by kernel_rfl) (by decide +kernel) rfl rfl (fun _ _=>rfl)⟩
theorem atlasAll_proved:Rows.AtlasAllSaid :=
 OpenClaim.holds_of_wide 10 Try.f10 rfl rfl rfl rfl rfl rfl rfl ⟨rfl,rfl,rfl,rfl,rfl⟩ rfl rfl rfl rfl rfl (by kernel_rfl) Try.func10 (by kernel_rfl)
  (of_decide_eq_true (by kernel_rfl)) (by unfold Func.isWrapper; first | (rw [if_pos (by decide +kernel)]; kernel_rfl) | (rw [if_neg (by decide +kernel)]; exact ⟨rfl,rfl⟩))
  (fun os started H enc _=>atlasAll_lifted os started H enc)
end Go.Proofs.Ytmankoikpadkpaa
