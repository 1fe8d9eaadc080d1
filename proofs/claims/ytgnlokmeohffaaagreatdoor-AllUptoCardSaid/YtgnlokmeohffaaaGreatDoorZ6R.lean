/- Parts of the proof: see the last text. -/
import Derived.Test.YtgnlokmeohffaaaGreatDoorCards
import Derived.Test.YtgnlokmeohffaaaGreatDoorTie
import Derived.ProofKit
import Derived.LaidMore
import Derived.OpenShut
import Derived.Stop.Joined
import Derived.SevenTiedAt
import Derived.LaidSub
import Derived.Lib.LaidTab
import Derived.Deep.DeepHandedRow
import Derived.Deep.DeepWitnessRowRef
import Derived.Test.YtgnlokmeohffaaaGreatDoorG14
namespace Go.Proofs.YtgnlokmeohffaaaGreatDoor
set_option maxRecDepth 100000
open Option renaming none → aC, some → aE
open Go renaming Value → aG, Value.slice → aJ, Ending.returned → aM, World → aY, Value.bool → bB, Calls → bH
open Go.Proofs.Tryz renaming prog → aQ
open Bool renaming false → aV, true → aX
open Go.RowKit renaming Below → bA
open Go.Proofs.Tryz
open Go.RowKit
namespace All
open Go.ChangeShapes Go.WideShapes Go.ChangeAt Go.WideMaps Go.WideElems Go.RowKit
theorem own:ownKnob aQ.godebug=aC:=by kernel_rfl
theorem laidOut:laidOutB aQ=aX:=by kernel_rfl
def ZN:Prop:=∀(a:Option Addr) (n c:Nat) (zs:List (Int×Int×ByteArray)) (W:aY),FM W a n zs->n<=1048576->laidMetH aQ Rows.allUptoRow.laid W->
 Lib.TabIs aQ W "internal/strconv.uint64pow10" .u64 Lib.pow10Tab->
 bH aQ 8 #[aJ a n c] W λe w' =>e=aM (bB aX)/\bA W.heap.size W w'
variable {W:aY}
theorem Ww (h:laidMetH aQ Rows.allUptoRow.laid W):Lib.TabIs aQ W "internal/strconv.uint64pow10" .u64 Lib.pow10Tab:=by
 rw[MakeChecks.laidMetH_plain _ _ _ (by kernel_rfl)] at h;have h2:=laidMet.filter (λx=>x.1== "internal/strconv.uint64pow10") h
 have e:(Rows.allUptoRow.laid.filter λx=>x.1== "internal/strconv.uint64pow10")=[("internal/strconv.uint64pow10",Lib.tabData .u64 Lib.pow10Tab)]:=by kernel_rfl
 rw[e] at h2;exact Lib.tabIs_of_head (g:=3) (n:=20) (t:=225) (e:=216) (by kernel_rfl) (by kernel_rfl) underlying225 underlying216 (by kernel_rfl) (by kernel_rfl) h2
theorem contract (walk:ZN)(H:Type)(enc:TypeId×aG->H)(W:aY)(base:Nat)(args:Array aG)(ds gs:List (DataW H))(before:List MemPlace)(ax:∀(j:Nat) t v,Tryz.f8.params[j]?=aE t->args[j]?=aE v->aG.okWide aQ W .any base t v)(hW:DataW.Whole enc aQ Tryz.f8.params.toList Rows.allSpec.vars aV W args.toList ds gs before)(hk:Rows.uptoSmall H (ds++gs)=aX)(hL:laidMetH aQ Rows.allUptoRow.laid W):
 bH aQ 8 args W λe W' =>∃v,e=aM v/\Rows.allSpec.post enc aQ Tryz.f8 aV aX aV aV W args v W' :=by
 have YW:∀(j:Nat) t v,Tryz.f8.params[j]?=aE t->args[j]?=aE v->aG.okWide aQ W .any base t v:=ax;have kw :=hW;obtain⟨p,q,ky,hV,rfl,Nm,CS⟩:=hW;have hA:DataW.TrodAll enc aQ W 0 (λ_=>aX) aX Tryz.f8.params.toList args.toList ds p:=ky;rw[Tryz.params8] at hA YW;obtain⟨v0,d0,rfl,rfl,h0⟩:=trodAll_one hA;obtain⟨rfl,rfl⟩:=trodVars_none hV;obtain⟨a,n,c,rfl⟩:=okWide_slice underlying22 (YW 0 22 v0 rfl rfl);have hd:Rows.uptoBulk d0<=1048576:=by
  have h1:=of_decide_eq_true hk;simp only[List.append_nil,Rows.uptoBulkAll] at h1;omega
 obtain⟨hn,zs,P4⟩:=ew h0 hd;clear ky ax hk;refine(walk a n c zs W P4 hn hL (Ww hL)).mono λe W' ⟨he,kx⟩=>?_
 subst he;exact⟨_,rfl,_,_,_,[],_,[],kw,trodAll_mk1 (shut_bool underlying4 _),(trodAll_cons_mk (bA.trod laidOut (by kernel_rfl) (of_decide_eq_true (by kernel_rfl)) h0 kx (λx hx=>kw.lt x (by simp[hx]))) trodAll_mk0),rfl,kx.frame _,λh=>by cases h⟩
theorem UE (os:Os):laidMet aQ Rows.allUptoRow.laid ((aY.doorLaid aQ 400 os).forCall (λ_ _=>0) ⟨#[],#[aJ aC 0 0],[]⟩).memory:=
 laidMet_of_run' 8 (by kernel_rfl) (by kernel_rfl)
variable {H:Type}
theorem reads (os:Os)(enc:TypeId×aG->H):∃places,DataW.whole enc aQ ((aY.doorLaid aQ 400 os).forCall (λ_ _=>0) ⟨#[],#[aJ aC 0 0],[]⟩).memory Tryz.f8.params.toList Rows.allSpec.vars aV #[aJ aC 0 0].toList 8=aE ([.nil],[],places):=
 ⟨[],by kernel_rfl⟩
theorem lifted (walk:ZN)(os:Os)(started:os.Started)(H:Type)(enc:TypeId×aG->H)(F:Stop.Interp):
 ReturnsInHanded {} Tryz.checked os 8 .any ((Rows.OpenSpec.upto Rows.allSpec).preRow enc aQ Tryz.f8 Rows.allUptoRow.domain aV Rows.allUptoRow.laid) (((Rows.OpenSpec.upto Rows.allSpec).at F).post enc aQ Tryz.f8 aV aX aV aV):=by
 obtain⟨places,hx⟩:=reads os enc;refine returnsInHanded_of_row (C:=Tryz.checked) (s:=Rows.OpenSpec.upto Rows.allSpec) own started (by kernel_rfl) func8
  (witness_row_atRef (enc:=enc) (C:=Tryz.checked) aV (aY.doorLaid aQ 400 os) #[aJ aC 0 0] rfl (by kernel_rfl) (by kernel_rfl) (by kernel_rfl)
   (OpenSpec.preRow_of_cond 8 hx (by kernel_rfl) (λk hk=>by cases hk;kernel_rfl) (by kernel_rfl) (UE os))) ?_
 intro W base args ds gs before YW hW _ ku _ hL _ _;exact contract walk H enc W base args ds gs before YW hW (ku _ rfl) hL
theorem MG (walk:ZN):Rows.AllUptoSaid:=
 OpenClaim.holds_of_cond 8 Tryz.f8 rfl rfl rfl rfl rfl rfl rfl ⟨rfl,rfl,rfl,rfl,rfl⟩ rfl rfl rfl rfl rfl (by kernel_rfl) func8 (by kernel_rfl)
  (of_decide_eq_true (by kernel_rfl)) (by unfold Func.isWrapper;first|(rw[eJ (by decide+kernel)];kernel_rfl)|(rw[dL (by decide+kernel)];exact⟨rfl,rfl⟩))
  (λos started H enc _ F=>by rw[OpenClaim.pre_eq_preRow];exact lifted walk os started H enc F)
theorem DW (walk:ZN):Rows.AllUptoCardSaid:=
 Claim7.holds_tied_plain_at .later [] _ _ _ _
  (MG walk) (λ_ h=>by cases h) (by kernel_rfl) (λ_ h=>by cases h) allUpto_row_tie rfl ⟨rfl,rfl⟩ (by kernel_rfl) rfl
  (λf fn hf hfn=>by
   obtain rfl:f=8:=aE.inj ((show aQ.funcNamed Rows.allUptoRow.func=aE 8 by kernel_rfl).symm.trans hf) |>.symm
   obtain rfl:fn=Tryz.f8:=(aE.inj (func8.symm.trans hfn)).symm;exact⟨by kernel_rfl,λj t ht=>by
    rw[Tryz.params8] at ht;have hm:t∈[22]:=by simpa using Array.mem_of_getElem? ht
    have kA:([22].all λu=>!aQ.wantsStandIn u)=aX:=by kernel_rfl
    exact(show aQ.wantsStandIn t=aV by simpa using List.all_eq_true.1 kA t hm)⟩)
  (by kernel_rfl)
end All
section
attribute [local go_sem ↓] Go.wp_at_zero Go.wp_at_succ
theorem XV (a:Option Addr)(n c:Nat)(zs:List (Int×Int×ByteArray))(W:aY)(P4:FM W a n zs)(hn:n<=1048576)(htab:lW W):
 bH aQ 8 #[aJ a n c] W λe w' =>e=aM (bB aX)/\bA W.heap.size W w' :=by
 have HP:=bE (LO W htab a n c zs P4 hn (aJ aC 0 0) (λ_=>aV) λW' _ l=>PR ⟨l.toArray⟩ W');clear P4 hn htab;go_enter func8,ntmps8;go_wp2_with fail
 refine(aN HP).mono ?_;rintro e w1 ⟨rfl,hb⟩;have HB:=bE hb;clear hb;go_wp2;go_ret;exact⟨rfl,aN HB⟩
end
end Go.Proofs.YtgnlokmeohffaaaGreatDoor
