/- Parts of the proof: see the last text. -/
import Derived.Deep.Strs
import Derived.Deep.DeepHandedRow
import Derived.LaidSub
import Derived.MakeChecks
import Derived.Test.YtgnlokmeohffaaaGreatDoorCards
import Derived.Test.YtgnlokmeohffaaaGreatDoorTie
import Derived.ProofKit
import Derived.LaidMore
import Derived.OpenShut
import Derived.Stop.Joined
import Derived.SevenTiedAt
import Derived.Lib.LaidTab
import Derived.Deep.DeepWitnessRowRef
import Derived.Test.YtgnlokmeohffaaaGreatDoorG14
namespace Go.Proofs.YtgnlokmeohffaaaGreatDoor
set_option maxRecDepth 100000
set_option maxHeartbeats 1600000
open Option renaming none → aC, some → aE
open Go renaming Value → aG, Value.string → aI, Value.slice → aJ, Ending.returned → aM, World → aY, Value.bool → bB, Calls → bH
open Go.Proofs.Tryz renaming prog → aQ
open Bool renaming false → aV, true → aX
open Go.RowKit renaming Below → bA, Below.refl → bF
open And renaming intro → bK
open List renaming getElem?_eq_getElem → bL, getElem?_map → cI, length_map → dO
open Nat renaming le_trans → cF, zero_add → dC, lt_of_lt_of_le → eC
open Go.Proofs.Tryz
open Go.RowKit
section
open Go.RowKit Go.ChangeShapes Go.WideShapes
attribute [local go_sem ↓] Go.wp_at_zero Go.wp_at_succ
def jn (W:aY) (g:Nat):Prop:=∃(a:Option Addr) (n c:Nat) (ls:List ByteArray),W.cell? ⟨g,0,aC⟩=aE (aJ a n c)/\lN W (aJ a n c) (ls.map aI)/\ls.length<=1000
variable {W:aY}{v:aG}
theorem jz {a:Addr}(h:W.cell? a=aE v):a=⟨a.block,a.off,aC⟩:=by
 obtain⟨b,o,s⟩:=a;cases s with
 |none=>rfl
 |some s=>
  exfalso;unfold aY.cell? at h
  split at h <;> simp at h
theorem jw:aQ.cellsOf 9=1:=by kernel_rfl
variable {g:Nat}
theorem kg {name:String}{rest:List (String×DataW Unit)}{xs ys:List (DataW Unit)}(hg:aQ.globalNamed name=aE g)(SG:(aQ.globals[g]?).map (·.type)=aE 23)(h0:0<xs.length)(hx:xs.length<=1000)(h:laidMet aQ ((name,DataW.slice xs ys)::rest) W):jn W g:=by
 obtain⟨ps,⟨g',t',cs,fuel,p,q,hg',ht',Nn,hd,_,_⟩,_⟩:=h;obtain rfl:=aE.inj (hg.symm.trans hg');obtain rfl:=aE.inj (SG.symm.trans ht');rcases Go.Deep.open_strs underlying23 underlying9 jw hd with ⟨h1,h2⟩|⟨a,len,cap,m,strx,h1,_,hle,_,hm,h2,h3⟩
 ·injection h2 with h2 _;cases h2
 ·injection h2 with h2 _;injection h2 with h2 _;have hlen:xs.length=len:=by rw[h2];simp
  have hlm:len<=m:=by rw[hm];split <;> omega
  have hc0:=(h3 0 (by omega)).1;have ha0:a.add 0=a:=by unfold Addr.add;rw[eJ rfl]
  rw[ha0] at hc0;have ha:=jz hc0;obtain⟨b,o,s⟩:=a;simp only at ha;injection ha with _ _ ha;subst ha;have hv:=aY.var?_cell hg Nn 0;rw[show cs[0]?=aE (aJ (aE ⟨b,o,aC⟩) len cap) by rw[<-Array.getElem?_toList,h1];rfl] at hv;refine⟨_,_,_,(List.range len).map strx,hv,.inr ⟨b,o,cap,by simp,eG hc0,λj u hu=>?_⟩,by simp;omega⟩;rw[cI,cI] at hu;by_cases hj:j<len
  ·have hr:(List.range len)[j]?=aE j:=by simp[hj]
   rw[hr] at hu;have hu:aI (strx j)=u:=by simpa using hu
   have:=(h3 j (by omega)).1;rw[fE] at this;rw[this,hu]
  ·have hr:(List.range len)[j]?=aC:=by simp;omega
   rw[hr] at hu;simp at hu
theorem kz {laid:List (String×DataW Unit)}(h:laidMetH aQ laid W)(name:String)(dat:DataW Unit){xs ys:List (DataW Unit)}(hD:dat=DataW.slice xs ys)(hp:(laid.all λx=>x.2.handleName?.isNone)=aX)(e:(laid.filter λx=>x.1==name)=[(name,dat)])(hg:aQ.globalNamed name=aE g)(SG:(aQ.globals[g]?).map (·.type)=aE 23)(h0:0<xs.length)(hx:xs.length<=1000):jn W g:=by
 rw[MakeChecks.laidMetH_plain _ _ _ hp] at h;have h2:=laidMet.filter (λx=>x.1==name) h;rw[e,hD] at h2;exact kg hg SG h0 hx h2
theorem kh {W' :aY}{ls:List ByteArray}(h:lN W v (ls.map aI))(hl:ls.length<=4294967296)(hb:bA W.heap.size W W')(l:List UInt8):bH aQ 41 #[aI ⟨l.toArray⟩,v] W' λe w' =>e=aM (bB (ls.any λx=>x.toList==l))/\w' =W' :=by
 have jT:(⟨l.toArray⟩:ByteArray).toList=l:=by rw[Go.ByteArray.toList_eq]
 rcases h.below hb with ⟨rfl,h0⟩|⟨b,o,c,rfl,eQ,hc⟩
 ·have h0:ls=[]:=by simpa using h0
  subst h0;exact PR ⟨l.toArray⟩ W'
 ·have:=QK ⟨l.toArray⟩ b o c ls W' hl λj hj=>hc j _ (by rw[cI,bL hj];rfl)
  rw[jT] at this;rwa[dO]
theorem jo (l:List ByteArray):∀u∈l.map aI,u.oneCell' =aX:=by
 intro u hu;obtain⟨x,_,rfl⟩:=List.mem_map.1 hu;rfl
theorem js:∃i,(aQ).info? 9=aE i/\i.zero=aE (aI ⟨#[]⟩)/\i.size=1/\i.bytes=16:=nE (by kernel_rfl)
variable {w1:aY}
theorem kl (g1:W.grownBy w1 aC):bA W.heap.size W w1:=⟨g1.os,g1.tape,g1.output,g1.size,λk hk=>g1.block k hk (by simp)⟩
theorem kj (t1:v.ownBlock=(aJ aC 0 0).ownBlock\/v.ownBlock=aE W.heap.size):∀k,k<W.heap.size->aE k≠v.ownBlock:=λk hk e=>by
 rcases t1 with t1|t1
 ·rw[t1] at e;cases e
 ·rw[t1] at e;injection e with e;exact absurd e (Nat.ne_of_lt hk)
variable {w2:aY}
theorem ki (hb:bA W.heap.size W w1)(r:∀k,k<W.heap.size->aE k≠v.ownBlock)(g:w1.grownBy w2 v.ownBlock):bA W.heap.size W w2:=
 ⟨g.os.trans hb.os,g.tape.trans hb.tape,g.output.trans hb.output,cF hb.size g.size,λk hk=>(g.block k (eC hk hb.size) (r k hk)).trans (hb.block k hk)⟩
variable {v2:aG}
theorem km (hb:bA W.heap.size W w1)(r:∀k,k<W.heap.size->aE k≠v.ownBlock)(t:v2.ownBlock=v.ownBlock\/v2.ownBlock=aE w1.heap.size):∀k,k<W.heap.size->aE k≠v2.ownBlock:=λk hk e=>by
 rcases t with t|t
 ·rw[t] at e;exact r k hk e
 ·rw[t] at e;injection e with e;have h1:=eC hk hb.size;rw[e] at h1;exact absurd h1 (Nat.lt_irrefl _)
def jp (W:aY) (a:Option Addr) (n c:Nat):Prop:=∀(w' :aY) (v:aG) (ls:List ByteArray),bA W.heap.size W w' ->lN w' v (ls.map aI)->ls.length<=4294967296->bH aQ 9 #[aJ a n c,v] w' λe w'' =>e=aM (bB aX)/\bA W.heap.size W w''
theorem kc (W:aY)(a:Option Addr)(n c:Nat)(h1:jn W 2)(H:jp W a n c):
 bH aQ 5 #[aJ a n c] W λe w' =>e=aM (bB aX)/\bA W.heap.size W w' :=by
 obtain⟨a1,n1,c1,l1,d1,s1,k1⟩:=h1;have HP:=bE (H W _ l1 (bF _ _) s1 (by omega));clear H s1 k1;go_enter func5,ntmps5;go_wp2_with fail
 refine(aN HP).mono ?_;rintro e w1 ⟨rfl,hb⟩;have HB:=bE hb;clear hb;go_wp2;go_ret;exact⟨rfl,aN HB⟩
end
theorem kr (W:aY)(htab:lW W)(a:Option Addr)(n c:Nat)(zs:List (Int×Int×ByteArray))(P4:FM W a n zs)(hn:n<=1048576):jp W a n c:=λw' v ls hb hs hl=>
 (LO w' (eU htab (hb.block _ (lD htab))) a n c zs ⟨P4.1,λk z hz=>by
  obtain⟨h1,h2,b,o,ha,eQ,c0,c1,c2⟩:=P4.2 k z hz;exact⟨h1,h2,b,o,ha,eC eQ hb.size,dX c0 hb,dX c1 hb,dX c2 hb⟩⟩ hn v (λl=>ls.any λx=>x.toList==l) λ_ Ew l=>kh hs hl Ew l).mono λ_ _ ⟨he,h2⟩=>⟨he,lZ hb h2⟩
namespace Plain
open Go.ChangeShapes Go.WideShapes Go.ChangeAt Go.WideMaps Go.WideElems Go.RowKit
theorem own:ownKnob aQ.godebug=aC:=by kernel_rfl
theorem laidOut:laidOutB aQ=aX:=by kernel_rfl
def ZN:Prop:=∀(a:Option Addr) (n c:Nat) (zs:List (Int×Int×ByteArray)) (W:aY),FM W a n zs->n<=1048576->laidMetH aQ Rows.plainUptoRow.laid W->
 Lib.TabIs aQ W "internal/strconv.uint64pow10" .u64 Lib.pow10Tab->
 bH aQ 3 #[aJ a n c] W λe w' =>e=aM (bB aX)/\bA W.heap.size W w'
variable {W:aY}
theorem Ww (h:laidMetH aQ Rows.plainUptoRow.laid W):Lib.TabIs aQ W "internal/strconv.uint64pow10" .u64 Lib.pow10Tab:=by
 rw[MakeChecks.laidMetH_plain _ _ _ (by kernel_rfl)] at h;have h2:=laidMet.filter (λx=>x.1== "internal/strconv.uint64pow10") h
 have e:(Rows.plainUptoRow.laid.filter λx=>x.1== "internal/strconv.uint64pow10")=[("internal/strconv.uint64pow10",Lib.tabData .u64 Lib.pow10Tab)]:=by kernel_rfl
 rw[e] at h2;exact Lib.tabIs_of_head (g:=3) (n:=20) (t:=225) (e:=216) (by kernel_rfl) (by kernel_rfl) underlying225 underlying216 (by kernel_rfl) (by kernel_rfl) h2
theorem contract (walk:ZN)(H:Type)(enc:TypeId×aG->H)(W:aY)(base:Nat)(args:Array aG)(ds gs:List (DataW H))(before:List MemPlace)(ax:∀(j:Nat) t v,Tryz.f3.params[j]?=aE t->args[j]?=aE v->aG.okWide aQ W .any base t v)(hW:DataW.Whole enc aQ Tryz.f3.params.toList Rows.plainSpec.vars aV W args.toList ds gs before)(hk:Rows.uptoSmall H (ds++gs)=aX)(hL:laidMetH aQ Rows.plainUptoRow.laid W):
 bH aQ 3 args W λe W' =>∃v,e=aM v/\Rows.plainSpec.post enc aQ Tryz.f3 aV aX aV aV W args v W' :=by
 have YW:∀(j:Nat) t v,Tryz.f3.params[j]?=aE t->args[j]?=aE v->aG.okWide aQ W .any base t v:=ax;have kw :=hW;obtain⟨p,q,ky,hV,rfl,Nm,CS⟩:=hW;have hA:DataW.TrodAll enc aQ W 0 (λ_=>aX) aX Tryz.f3.params.toList args.toList ds p:=ky;rw[Tryz.params3] at hA YW;obtain⟨v0,d0,rfl,rfl,h0⟩:=trodAll_one hA;obtain⟨rfl,rfl⟩:=trodVars_none hV;obtain⟨a,n,c,rfl⟩:=okWide_slice underlying22 (YW 0 22 v0 rfl rfl);have hd:Rows.uptoBulk d0<=1048576:=by
  have h1:=of_decide_eq_true hk;simp only[List.append_nil,Rows.uptoBulkAll] at h1;omega
 obtain⟨hn,zs,P4⟩:=ew h0 hd;clear ky ax hk;refine(walk a n c zs W P4 hn hL (Ww hL)).mono λe W' ⟨he,kx⟩=>?_
 subst he;exact⟨_,rfl,_,_,_,[],_,[],kw,trodAll_mk1 (shut_bool underlying4 _),(trodAll_cons_mk (bA.trod laidOut (by kernel_rfl) (of_decide_eq_true (by kernel_rfl)) h0 kx (λx hx=>kw.lt x (by simp[hx]))) trodAll_mk0),rfl,kx.frame _,λh=>by cases h⟩
theorem UE (os:Os):laidMet aQ Rows.plainUptoRow.laid ((aY.doorLaid aQ 400 os).forCall (λ_ _=>0) ⟨#[],#[aJ aC 0 0],[]⟩).memory:=
 laidMet_of_run' 8 (by kernel_rfl) (by kernel_rfl)
variable {H:Type}
theorem reads (os:Os)(enc:TypeId×aG->H):∃places,DataW.whole enc aQ ((aY.doorLaid aQ 400 os).forCall (λ_ _=>0) ⟨#[],#[aJ aC 0 0],[]⟩).memory Tryz.f3.params.toList Rows.plainSpec.vars aV #[aJ aC 0 0].toList 8=aE ([.nil],[],places):=
 ⟨[],by kernel_rfl⟩
theorem lifted (walk:ZN)(os:Os)(started:os.Started)(H:Type)(enc:TypeId×aG->H)(F:Stop.Interp):
 ReturnsInHanded {} Tryz.checked os 3 .any ((Rows.OpenSpec.upto Rows.plainSpec).preRow enc aQ Tryz.f3 Rows.plainUptoRow.domain aV Rows.plainUptoRow.laid) (((Rows.OpenSpec.upto Rows.plainSpec).at F).post enc aQ Tryz.f3 aV aX aV aV):=by
 obtain⟨places,hx⟩:=reads os enc;refine returnsInHanded_of_row (C:=Tryz.checked) (s:=Rows.OpenSpec.upto Rows.plainSpec) own started (by kernel_rfl) func3
  (witness_row_atRef (enc:=enc) (C:=Tryz.checked) aV (aY.doorLaid aQ 400 os) #[aJ aC 0 0] rfl (by kernel_rfl) (by kernel_rfl) (by kernel_rfl)
   (OpenSpec.preRow_of_cond 8 hx (by kernel_rfl) (λk hk=>by cases hk;kernel_rfl) (by kernel_rfl) (UE os))) ?_
 intro W base args ds gs before YW hW _ ku _ hL _ _;exact contract walk H enc W base args ds gs before YW hW (ku _ rfl) hL
theorem MG (walk:ZN):Rows.PlainUptoSaid:=
 OpenClaim.holds_of_cond 3 Tryz.f3 rfl rfl rfl rfl rfl rfl rfl ⟨rfl,rfl,rfl,rfl,rfl⟩ rfl rfl rfl rfl rfl (by kernel_rfl) func3 (by kernel_rfl)
  (of_decide_eq_true (by kernel_rfl)) (by unfold Func.isWrapper;first|(rw[eJ (by decide+kernel)];kernel_rfl)|(rw[dL (by decide+kernel)];exact⟨rfl,rfl⟩))
  (λos started H enc _ F=>by rw[OpenClaim.pre_eq_preRow];exact lifted walk os started H enc F)
theorem DW (walk:ZN):Rows.PlainUptoCardSaid:=
 Claim7.holds_tied_plain_at .later [] _ _ _ _
  (MG walk) (λ_ h=>by cases h) (by kernel_rfl) (λ_ h=>by cases h) plainUpto_row_tie rfl ⟨rfl,rfl⟩ (by kernel_rfl) rfl
  (λf fn hf hfn=>by
   obtain rfl:f=3:=aE.inj ((show aQ.funcNamed Rows.plainUptoRow.func=aE 3 by kernel_rfl).symm.trans hf) |>.symm
   obtain rfl:fn=Tryz.f3:=(aE.inj (func3.symm.trans hfn)).symm;exact⟨by kernel_rfl,λj t ht=>by
    rw[Tryz.params3] at ht;have hm:t∈[22]:=by simpa using Array.mem_of_getElem? ht
    have kA:([22].all λu=>!aQ.wantsStandIn u)=aX:=by kernel_rfl
    exact(show aQ.wantsStandIn t=aV by simpa using List.all_eq_true.1 kA t hm)⟩)
  (by kernel_rfl)
end Plain
section
attribute [local go_sem ↓] Go.wp_at_zero Go.wp_at_succ
theorem ke (W:aY)(a:Option Addr)(n c:Nat)(h1:jn W 0)(h2:jn W 1)(h3:jn W 2)(H:jp W a n c):
 bH aQ 3 #[aJ a n c] W λe w' =>e=aM (bB aX)/\bA W.heap.size W w' :=by
 obtain⟨a1,n1,c1,l1,d1,s1,k1⟩:=h1;obtain⟨a2,n2,c2,l2,d2,s2,k2⟩:=h2;obtain⟨a3,n3,c3,l3,d3,s3,k3⟩:=h3;obtain⟨iI,hi,hz,pW,jP⟩:=js;generalize jt:l1.map aI=x1 at s1;have y1:x1.length=l1.length:=by rw[<-jt,dO]
 have q1:∀u∈x1,u.oneCell' =aX:=by rw[<-jt];exact jo _
 have Dat1:=bE (bK d1 s1);generalize jy:l2.map aI=x2 at s2;have y2:x2.length=l2.length:=by rw[<-jy,dO]
 have q2:∀u∈x2,u.oneCell' =aX:=by rw[<-jy];exact jo _
 have jq:=bE (bK d2 s2);generalize hx3:l3.map aI=x3 at s3;have y3:x3.length=l3.length:=by rw[<-hx3,dO]
 have q3:∀u∈x3,u.oneCell' =aX:=by rw[<-hx3];exact jo _
 have kb:=bE (bK d3 s3);have wL:0+x1.length<=maxLen:=by unfold maxLen;omega
 have wN:(0+x1.length)*16<=140737488355328:=by omega
 have mx2:x1.length+x2.length<=maxLen:=by unfold maxLen;omega
 have by2:(x1.length+x2.length)*16<=140737488355328:=by omega
 have mx3:x1.length+x2.length+x3.length<=maxLen:=by unfold maxLen;omega
 have by3:(x1.length+x2.length+x3.length)*16<=140737488355328:=by omega
 have HE:=bE (show(l1++l2++l3).map aI=x1++x2++x3/\(l1++l2++l3).length<=4294967296 from⟨by simp[jt,jy,hx3],by simp;omega⟩);have HH:=bE H;clear H k1 jt y1 k2 jy y2 k3 hx3 y3 s2 s3;go_enter func3,ntmps3;go_wp2_with (first
  |(at_builtin
    refine kV _ (by rfl) (.tmp 4) (.tmp 5) 23 (by rfl) 9 iI (aI ⟨#[]⟩) 16 underlying23 hi hz pW jP rfl (aJ aC 0 0) (0) ([]) (by rfl) (aY.ownsRow_nil _ _ _ _) (aJ a1 n1 c1) x1 (by rfl) (by exact s1) q1 wL wN ?_;intro b1 e1 w1 o1 g1 t1;simp only[dC,List.nil_append] at o1 t1;have g1:W.grownBy w1 aC:=⟨g1.os,g1.tape,g1.output,g1.size,g1.block⟩
    have d1:=g1.cell d1 (by simp);have d2:=g1.cell d2 (by simp);have d3:=g1.cell d3 (by simp);have fF:=kl g1;have r1:=kj t1;have NE2:=bE (r1 1 (eG (aN jq).1));have NE3:=bE (r1 2 (eG (aN kb).1));have s2:=(aN jq).2.below fF;have Q5:=bE fF;have jx:=bE r1;clear fF r1 t1 g1 d1 s1)
  |(at_builtin
    refine kV _ (by rfl) (.tmp 7) (.tmp 8) 23 (by rfl) 9 iI (aI ⟨#[]⟩) 16 underlying23 hi hz pW jP rfl (aJ b1 (x1.length) e1) (x1.length) (x1) (by rfl) o1 (aJ a2 n2 c2) x2 (by rfl) (by exact s2) q2 mx2 by2 ?_;intro b2 e2 w2 o2 g2 t2;have g2:w1.grownBy w2 (aJ b1 (x1.length) e1).ownBlock:=⟨g2.os,g2.tape,g2.output,g2.size,g2.block⟩
    have d2:=g2.cell d2 (aN NE2);have d3:=g2.cell d3 (aN NE3);have eD:=ki (aN Q5) (aN jx) g2;have r2:=km (aN Q5) (aN jx) t2;have NE3:=bE (r2 2 (eG (aN kb).1));have s3:=(aN kb).2.below eD;have uG:=bE eD;have HR2:=bE r2;clear eD r2 t2 g2 d2 s2)
  |(at_builtin
    refine kV _ (by rfl) (.tmp 10) (.tmp 11) 23 (by rfl) 9 iI (aI ⟨#[]⟩) 16 underlying23 hi hz pW jP rfl (aJ b2 (x1.length+x2.length) e2) (x1.length+x2.length) (x1++x2) (by rfl) o2 (aJ a3 n3 c3) x3 (by rfl) (by exact s3) q3 mx3 by3 ?_;intro b3 e3 w3 o3 g3 t3;have g3:w2.grownBy w3 (aJ b2 (x1.length+x2.length) e2).ownBlock:=⟨g3.os,g3.tape,g3.output,g3.size,g3.block⟩
    have d3:=g3.cell d3 (aN NE3);have eW:=ki (aN uG) (aN HR2) g3))
 have src:=lN.ju o3;rw[<-(aN HE).1] at src;have HP:=bE (aN HH w3 _ _ eW src (aN HE).2);clear src eW o3 t3 g3 d3 s3;refine(aN HP).mono ?_;rintro e wz ⟨rfl,hb⟩;have HB:=bE hb;clear hb;go_wp2;go_ret;exact⟨rfl,aN HB⟩
end
end Go.Proofs.YtgnlokmeohffaaaGreatDoor
