/- Parts of the proof: see the last text. -/
import Derived.Test.YtgnlokmeohffaaaGreatDoorCards
import Derived.Test.YtgnlokmeohffaaaGreatDoorTie
import Derived.ProofKit
import Derived.LaidMore
import Derived.OpenShut
import Derived.Stop.Joined
import Derived.SevenTiedAt
import Derived.LaidSub
import Derived.Lib.LaidTab
import Derived.Deep.DeepHandedRow
import Derived.Deep.DeepWitnessRowRef
import Derived.Deep.Strs
import Derived.MakeChecks
import Derived.Test.YtgnlokmeohffaaaGreatDoorG14
namespace Go.Proofs.YtgnlokmeohffaaaGreatDoor
set_option maxRecDepth 100000
open Option renaming none → aC, some → aE
open Go renaming Value → aG, Value.string → aI, Value.slice → aJ, Ending.returned → aM, World → aY, Value.bool → bB, Calls → bH
open Go.Proofs.Tryz renaming prog → aQ
open Bool renaming false → aV, true → aX
open Go.RowKit renaming Below → bA, Below.refl → bF
open List renaming getElem?_eq_getElem → bL, getElem?_map → cI, length_map → dO
open Nat renaming le_trans → cF, lt_of_lt_of_le → eC
open Go.Proofs.Tryz
open Go.RowKit
namespace Varied
open Go.ChangeShapes Go.WideShapes Go.ChangeAt Go.WideMaps Go.WideElems Go.RowKit
theorem own:ownKnob aQ.godebug=aC:=by kernel_rfl
theorem laidOut:laidOutB aQ=aX:=by kernel_rfl
def ZN:Prop:=∀(a:Option Addr) (n c:Nat) (zs:List (Int×Int×ByteArray)) (W:aY),FM W a n zs->n<=1048576->laidMetH aQ Rows.variedUptoRow.laid W->
 Lib.TabIs aQ W "internal/strconv.uint64pow10" .u64 Lib.pow10Tab->
 bH aQ 5 #[aJ a n c] W λe w' =>e=aM (bB aX)/\bA W.heap.size W w'
variable {W:aY}
theorem Ww (h:laidMetH aQ Rows.variedUptoRow.laid W):Lib.TabIs aQ W "internal/strconv.uint64pow10" .u64 Lib.pow10Tab:=by
 rw[MakeChecks.laidMetH_plain _ _ _ (by kernel_rfl)] at h;have h2:=laidMet.filter (λx=>x.1== "internal/strconv.uint64pow10") h
 have e:(Rows.variedUptoRow.laid.filter λx=>x.1== "internal/strconv.uint64pow10")=[("internal/strconv.uint64pow10",Lib.tabData .u64 Lib.pow10Tab)]:=by kernel_rfl
 rw[e] at h2;exact Lib.tabIs_of_head (g:=3) (n:=20) (t:=225) (e:=216) (by kernel_rfl) (by kernel_rfl) underlying225 underlying216 (by kernel_rfl) (by kernel_rfl) h2
theorem contract (walk:ZN)(H:Type)(enc:TypeId×aG->H)(W:aY)(base:Nat)(args:Array aG)(ds gs:List (DataW H))(before:List MemPlace)(ax:∀(j:Nat) t v,Tryz.f5.params[j]?=aE t->args[j]?=aE v->aG.okWide aQ W .any base t v)(hW:DataW.Whole enc aQ Tryz.f5.params.toList Rows.variedSpec.vars aV W args.toList ds gs before)(hk:Rows.uptoSmall H (ds++gs)=aX)(hL:laidMetH aQ Rows.variedUptoRow.laid W):
 bH aQ 5 args W λe W' =>∃v,e=aM v/\Rows.variedSpec.post enc aQ Tryz.f5 aV aX aV aV W args v W' :=by
 have YW:∀(j:Nat) t v,Tryz.f5.params[j]?=aE t->args[j]?=aE v->aG.okWide aQ W .any base t v:=ax;have kw :=hW;obtain⟨p,q,ky,hV,rfl,Nm,CS⟩:=hW;have hA:DataW.TrodAll enc aQ W 0 (λ_=>aX) aX Tryz.f5.params.toList args.toList ds p:=ky;rw[Tryz.params5] at hA YW;obtain⟨v0,d0,rfl,rfl,h0⟩:=trodAll_one hA;obtain⟨rfl,rfl⟩:=trodVars_none hV;obtain⟨a,n,c,rfl⟩:=okWide_slice underlying22 (YW 0 22 v0 rfl rfl);have hd:Rows.uptoBulk d0<=1048576:=by
  have h1:=of_decide_eq_true hk;simp only[List.append_nil,Rows.uptoBulkAll] at h1;omega
 obtain⟨hn,zs,P4⟩:=ew h0 hd;clear ky ax hk;refine(walk a n c zs W P4 hn hL (Ww hL)).mono λe W' ⟨he,kx⟩=>?_
 subst he;exact⟨_,rfl,_,_,_,[],_,[],kw,trodAll_mk1 (shut_bool underlying4 _),(trodAll_cons_mk (bA.trod laidOut (by kernel_rfl) (of_decide_eq_true (by kernel_rfl)) h0 kx (λx hx=>kw.lt x (by simp[hx]))) trodAll_mk0),rfl,kx.frame _,λh=>by cases h⟩
theorem UE (os:Os):laidMet aQ Rows.variedUptoRow.laid ((aY.doorLaid aQ 400 os).forCall (λ_ _=>0) ⟨#[],#[aJ aC 0 0],[]⟩).memory:=
 laidMet_of_run' 8 (by kernel_rfl) (by kernel_rfl)
variable {H:Type}
theorem reads (os:Os)(enc:TypeId×aG->H):∃places,DataW.whole enc aQ ((aY.doorLaid aQ 400 os).forCall (λ_ _=>0) ⟨#[],#[aJ aC 0 0],[]⟩).memory Tryz.f5.params.toList Rows.variedSpec.vars aV #[aJ aC 0 0].toList 8=aE ([.nil],[],places):=
 ⟨[],by kernel_rfl⟩
theorem lifted (walk:ZN)(os:Os)(started:os.Started)(H:Type)(enc:TypeId×aG->H)(F:Stop.Interp):
 ReturnsInHanded {} Tryz.checked os 5 .any ((Rows.OpenSpec.upto Rows.variedSpec).preRow enc aQ Tryz.f5 Rows.variedUptoRow.domain aV Rows.variedUptoRow.laid) (((Rows.OpenSpec.upto Rows.variedSpec).at F).post enc aQ Tryz.f5 aV aX aV aV):=by
 obtain⟨places,hx⟩:=reads os enc;refine returnsInHanded_of_row (C:=Tryz.checked) (s:=Rows.OpenSpec.upto Rows.variedSpec) own started (by kernel_rfl) func5
  (witness_row_atRef (enc:=enc) (C:=Tryz.checked) aV (aY.doorLaid aQ 400 os) #[aJ aC 0 0] rfl (by kernel_rfl) (by kernel_rfl) (by kernel_rfl)
   (OpenSpec.preRow_of_cond 8 hx (by kernel_rfl) (λk hk=>by cases hk;kernel_rfl) (by kernel_rfl) (UE os))) ?_
 intro W base args ds gs before YW hW _ ku _ hL _ _;exact contract walk H enc W base args ds gs before YW hW (ku _ rfl) hL
theorem MG (walk:ZN):Rows.VariedUptoSaid:=
 OpenClaim.holds_of_cond 5 Tryz.f5 rfl rfl rfl rfl rfl rfl rfl ⟨rfl,rfl,rfl,rfl,rfl⟩ rfl rfl rfl rfl rfl (by kernel_rfl) func5 (by kernel_rfl)
  (of_decide_eq_true (by kernel_rfl)) (by unfold Func.isWrapper;first|(rw[eJ (by decide+kernel)];kernel_rfl)|(rw[dL (by decide+kernel)];exact⟨rfl,rfl⟩))
  (λos started H enc _ F=>by rw[OpenClaim.pre_eq_preRow];exact lifted walk os started H enc F)
theorem DW (walk:ZN):Rows.VariedUptoCardSaid:=
 Claim7.holds_tied_plain_at .later [] _ _ _ _
  (MG walk) (λ_ h=>by cases h) (by kernel_rfl) (λ_ h=>by cases h) variedUpto_row_tie rfl ⟨rfl,rfl⟩ (by kernel_rfl) rfl
  (λf fn hf hfn=>by
   obtain rfl:f=5:=aE.inj ((show aQ.funcNamed Rows.variedUptoRow.func=aE 5 by kernel_rfl).symm.trans hf) |>.symm
   obtain rfl:fn=Tryz.f5:=(aE.inj (func5.symm.trans hfn)).symm;exact⟨by kernel_rfl,λj t ht=>by
    rw[Tryz.params5] at ht;have hm:t∈[22]:=by simpa using Array.mem_of_getElem? ht
    have kA:([22].all λu=>!aQ.wantsStandIn u)=aX:=by kernel_rfl
    exact(show aQ.wantsStandIn t=aV by simpa using List.all_eq_true.1 kA t hm)⟩)
  (by kernel_rfl)
end Varied
section
open Go.RowKit Go.ChangeShapes Go.WideShapes
attribute [local go_sem ↓] Go.wp_at_zero Go.wp_at_succ
def jn (W:aY) (g:Nat):Prop:=∃(a:Option Addr) (n c:Nat) (ls:List ByteArray),W.cell? ⟨g,0,aC⟩=aE (aJ a n c)/\lN W (aJ a n c) (ls.map aI)/\ls.length<=1000
variable {W:aY}{v:aG}
theorem jz {a:Addr}(h:W.cell? a=aE v):a=⟨a.block,a.off,aC⟩:=by
 obtain⟨b,o,s⟩:=a;cases s with
 |none=>rfl
 |some s=>
  exfalso;unfold aY.cell? at h
  split at h <;> simp at h
theorem jw:aQ.cellsOf 9=1:=by kernel_rfl
variable {g:Nat}
theorem kg {name:String}{rest:List (String×DataW Unit)}{xs ys:List (DataW Unit)}(hg:aQ.globalNamed name=aE g)(SG:(aQ.globals[g]?).map (·.type)=aE 23)(h0:0<xs.length)(hx:xs.length<=1000)(h:laidMet aQ ((name,DataW.slice xs ys)::rest) W):jn W g:=by
 obtain⟨ps,⟨g',t',cs,fuel,p,q,hg',ht',Nn,hd,_,_⟩,_⟩:=h;obtain rfl:=aE.inj (hg.symm.trans hg');obtain rfl:=aE.inj (SG.symm.trans ht');rcases Go.Deep.open_strs underlying23 underlying9 jw hd with ⟨h1,h2⟩|⟨a,len,cap,m,strx,h1,_,hle,_,hm,h2,h3⟩
 ·injection h2 with h2 _;cases h2
 ·injection h2 with h2 _;injection h2 with h2 _;have hlen:xs.length=len:=by rw[h2];simp
  have hlm:len<=m:=by rw[hm];split <;> omega
  have hc0:=(h3 0 (by omega)).1;have ha0:a.add 0=a:=by unfold Addr.add;rw[eJ rfl]
  rw[ha0] at hc0;have ha:=jz hc0;obtain⟨b,o,s⟩:=a;simp only at ha;injection ha with _ _ ha;subst ha;have hv:=aY.var?_cell hg Nn 0;rw[show cs[0]?=aE (aJ (aE ⟨b,o,aC⟩) len cap) by rw[<-Array.getElem?_toList,h1];rfl] at hv;refine⟨_,_,_,(List.range len).map strx,hv,.inr ⟨b,o,cap,by simp,eG hc0,λj u hu=>?_⟩,by simp;omega⟩;rw[cI,cI] at hu;by_cases hj:j<len
  ·have hr:(List.range len)[j]?=aE j:=by simp[hj]
   rw[hr] at hu;have hu:aI (strx j)=u:=by simpa using hu
   have:=(h3 j (by omega)).1;rw[fE] at this;rw[this,hu]
  ·have hr:(List.range len)[j]?=aC:=by simp;omega
   rw[hr] at hu;simp at hu
theorem kz {laid:List (String×DataW Unit)}(h:laidMetH aQ laid W)(name:String)(dat:DataW Unit){xs ys:List (DataW Unit)}(hD:dat=DataW.slice xs ys)(hp:(laid.all λx=>x.2.handleName?.isNone)=aX)(e:(laid.filter λx=>x.1==name)=[(name,dat)])(hg:aQ.globalNamed name=aE g)(SG:(aQ.globals[g]?).map (·.type)=aE 23)(h0:0<xs.length)(hx:xs.length<=1000):jn W g:=by
 rw[MakeChecks.laidMetH_plain _ _ _ hp] at h;have h2:=laidMet.filter (λx=>x.1==name) h;rw[e,hD] at h2;exact kg hg SG h0 hx h2
theorem kh {W' :aY}{ls:List ByteArray}(h:lN W v (ls.map aI))(hl:ls.length<=4294967296)(hb:bA W.heap.size W W')(l:List UInt8):bH aQ 41 #[aI ⟨l.toArray⟩,v] W' λe w' =>e=aM (bB (ls.any λx=>x.toList==l))/\w' =W' :=by
 have jT:(⟨l.toArray⟩:ByteArray).toList=l:=by rw[Go.ByteArray.toList_eq]
 rcases h.below hb with ⟨rfl,h0⟩|⟨b,o,c,rfl,eQ,hc⟩
 ·have h0:ls=[]:=by simpa using h0
  subst h0;exact PR ⟨l.toArray⟩ W'
 ·have:=QK ⟨l.toArray⟩ b o c ls W' hl λj hj=>hc j _ (by rw[cI,bL hj];rfl)
  rw[jT] at this;rwa[dO]
theorem jo (l:List ByteArray):∀u∈l.map aI,u.oneCell' =aX:=by
 intro u hu;obtain⟨x,_,rfl⟩:=List.mem_map.1 hu;rfl
theorem js:∃i,(aQ).info? 9=aE i/\i.zero=aE (aI ⟨#[]⟩)/\i.size=1/\i.bytes=16:=nE (by kernel_rfl)
variable {w1:aY}
theorem kl (g1:W.grownBy w1 aC):bA W.heap.size W w1:=⟨g1.os,g1.tape,g1.output,g1.size,λk hk=>g1.block k hk (by simp)⟩
theorem kj (t1:v.ownBlock=(aJ aC 0 0).ownBlock\/v.ownBlock=aE W.heap.size):∀k,k<W.heap.size->aE k≠v.ownBlock:=λk hk e=>by
 rcases t1 with t1|t1
 ·rw[t1] at e;cases e
 ·rw[t1] at e;injection e with e;exact absurd e (Nat.ne_of_lt hk)
variable {w2:aY}
theorem ki (hb:bA W.heap.size W w1)(r:∀k,k<W.heap.size->aE k≠v.ownBlock)(g:w1.grownBy w2 v.ownBlock):bA W.heap.size W w2:=
 ⟨g.os.trans hb.os,g.tape.trans hb.tape,g.output.trans hb.output,cF hb.size g.size,λk hk=>(g.block k (eC hk hb.size) (r k hk)).trans (hb.block k hk)⟩
variable {v2:aG}
theorem km (hb:bA W.heap.size W w1)(r:∀k,k<W.heap.size->aE k≠v.ownBlock)(t:v2.ownBlock=v.ownBlock\/v2.ownBlock=aE w1.heap.size):∀k,k<W.heap.size->aE k≠v2.ownBlock:=λk hk e=>by
 rcases t with t|t
 ·rw[t] at e;exact r k hk e
 ·rw[t] at e;injection e with e;have h1:=eC hk hb.size;rw[e] at h1;exact absurd h1 (Nat.lt_irrefl _)
def jp (W:aY) (a:Option Addr) (n c:Nat):Prop:=∀(w' :aY) (v:aG) (ls:List ByteArray),bA W.heap.size W w' ->lN w' v (ls.map aI)->ls.length<=4294967296->bH aQ 9 #[aJ a n c,v] w' λe w'' =>e=aM (bB aX)/\bA W.heap.size W w''
theorem kc (W:aY)(a:Option Addr)(n c:Nat)(h1:jn W 2)(H:jp W a n c):
 bH aQ 5 #[aJ a n c] W λe w' =>e=aM (bB aX)/\bA W.heap.size W w' :=by
 obtain⟨a1,n1,c1,l1,d1,s1,k1⟩:=h1;have HP:=bE (H W _ l1 (bF _ _) s1 (by omega));clear H s1 k1;go_enter func5,ntmps5;go_wp2_with fail
 refine(aN HP).mono ?_;rintro e w1 ⟨rfl,hb⟩;have HB:=bE hb;clear hb;go_wp2;go_ret;exact⟨rfl,aN HB⟩
end
theorem kr (W:aY)(htab:lW W)(a:Option Addr)(n c:Nat)(zs:List (Int×Int×ByteArray))(P4:FM W a n zs)(hn:n<=1048576):jp W a n c:=λw' v ls hb hs hl=>
 (LO w' (eU htab (hb.block _ (lD htab))) a n c zs ⟨P4.1,λk z hz=>by
  obtain⟨h1,h2,b,o,ha,eQ,c0,c1,c2⟩:=P4.2 k z hz;exact⟨h1,h2,b,o,ha,eC eQ hb.size,dX c0 hb,dX c1 hb,dX c2 hb⟩⟩ hn v (λl=>ls.any λx=>x.toList==l) λ_ Ew l=>kh hs hl Ew l).mono λ_ _ ⟨he,h2⟩=>⟨he,lZ hb h2⟩
end Go.Proofs.YtgnlokmeohffaaaGreatDoor
