/- Parts of the proof: see the last text. -/
import Derived.Test.YtgnlokmeohffaaaGreatDoorG8
namespace Go.Proofs.YtgnlokmeohffaaaGreatDoor
set_option maxRecDepth 100000
set_option maxHeartbeats 3200000
open Option renaming none → aC, some → aE
open Go renaming IntKind.i64 → aF, Value → aG, Value.int → aH, Value.string → aI, Value.slice → aJ, Value.pointer → aK, Ending.returned → aM, Obj.cells → aU, World → aY, Value.tuple → bC, Value.bool → bB, Calls → bH, Value.agg → bM, Value.iface → bO, World.grownBy_alloc → bU, Instr.typeAssert → bY
open Go.Proofs.Tryz renaming prog → aQ
open Bool renaming false → aV, true → aX, or_eq_true → dY
open Go.RowKit renaming Below → bA, Below.refl → bF
open Nat renaming le_refl → bD, zero_le → bZ, le_trans → cF, le_of_lt → cN, zero_add → dC, lt_of_lt_of_le → eC
open List renaming getElem?_eq_some_iff → bI, getElem?_eq_getElem → bL, length_append → bN, getElem?_append_right → bP, getElem?_append_left → bT, mem_of_getElem? → cG, getElem?_map → cI, length_cons → cX, mem_singleton → dE, take_succ_eq_append_getElem → dF, not_mem_nil → dR, length_eq_zero_iff → dU, getElem?_eq_none → dZ, mem_cons_self → eF
open And renaming intro → bK
open Tryz
open Go.RowKit
section
attribute [local go_sem ↓] Go.wp_at_zero Go.wp_at_succ
theorem yD:∃i,(aQ).info? 223=aE i/\i.zero=aE (bM #[aI ⟨#[]⟩,aH aF 0,aJ aC 0 0])/\i.size=3/\i.bytes=48:=nE (by kernel_rfl)
variable {B dd:Nat}{w W w3:aY}{vD vP v v' :aG}{pv:List aG}{wv:List Own}
theorem dM.push {d:N.iY}(h:dM B w dd vD vP pv wv d)(hb:bA w.heap.size w W)(o:N.Part)(hv:W.ownsRow w.heap.size 3 1 v o.waits.length (o.waits.map nU))(hg:W.grownBy w3 vP.ownBlock)(ho:w3.ownsRow B 223 3 v' (d.opens.length+1) (fX d.opens.reverse pv++[aI ⟨o.kind.toArray⟩,aH aF (o.start:Int),v]))(sD:d.opens.length+1<=60)(Dl:o.start<=60/\o.waits.length<=60/\∀p∈o.waits,p<d.body.length):
 dM B (w3.setCell ⟨dd,1,aC⟩ v') dd vD v' (pv++[v]) wv ⟨d.body,o::d.opens⟩/\bA B w (w3.setCell ⟨dd,1,aC⟩ v'):=by
 obtain⟨n1,n2,n3,n4⟩:=h.mP;have ES:=cC h.blk;have hBw:B<=w.heap.size:=cF h.hB (cN ES)
 -- a block of w that is not the qU row
 have zP:∀k,k<w.heap.size->vP.ownBlock≠aE k->k≠dd->(w3.setCell ⟨dd,1,aC⟩ v').heap[k]?=w.heap[k]?:=λk hk jD hd=>
  (bA.heap_setCell _ _ _ _ hd).trans ((hg.block k (eC hk hb.size) λe=>jD e.symm).trans (hb.block k hk))
 have RY:w3.heap[dd]?=aE (aU #[vD,vP] 201):=(hg.block dd (eC ES hb.size) λe=>n2 e.symm).trans ((hb.block dd ES).trans h.blk);have SY:v'.ownBlock≠aE dd:=wH ho RY (by decide);have sC:(o::d.opens).reverse=d.opens.reverse++[o]:=by simp
 have eY:∀k,v.ownBlock=aE k->w.heap.size<=k/\(w3.setCell ⟨dd,1,aC⟩ v').heap[k]?=W.heap[k]?:=λk hk=>by
  obtain⟨h1,h2⟩:=hv.lt k hk;refine⟨h1,(bA.heap_setCell _ _ _ _ (show k≠dd by omega)).trans (hg.block k h2 λe=>?_)⟩;have:=(h.opens.lt k e.symm).2;omega
 refine⟨⟨h.hB,bV RY 1 _,?_,?_,?_,?_,?_,h.small,by show(o::d.opens).length<=60;simpa using sD,?_⟩,?_⟩
 ·exact cV h.body λk e=>zP k (h.body.lt k e).2 (n3 k e) λe2=>n1 (e2▸e)
 ·show aY.ownsRow _ _ _ _ _ (o::d.opens).length (fX (o::d.opens).reverse (pv++[v]));rw[sC,pX h.xP];exact cV ho λk e=>bA.heap_setCell _ _ _ _ (show k≠dd from λe2=>SY (e2▸e))
 ·rw[sC,bN,bN,h.xP];rfl
 ·intro i x u h1 h2;rw[sC] at h1;by_cases hi:i<d.opens.reverse.length
  ·rw[bT hi] at h1;rw[bT (by rw[h.xP];exact hi)] at h2;have hw:=h.waits i x u h1 h2;exact cV hw λk e=>zP k (hw.lt k e).2 (λe3=>(n4 u (cG h2)).2.2 k e3 e) λe2=>(n4 u (cG h2)).1 (e2▸e)
  ·rw[bP (by omega)] at h1;rw[bP (by rw[h.xP];omega),h.xP] at h2;obtain⟨j,hj⟩:∃j,i-d.opens.reverse.length=j:=⟨_,rfl⟩
   rw[hj] at h1 h2;cases j with
   |succ j=>simp at h1
   |zero=>
    simp only[List.getElem?_cons_zero,aE.injEq] at h1 h2;subst h1 h2;have hk:=cV hv λk e=>(eY k e).2
    refine⟨hk.1,?_⟩;rcases hk.2 with x|⟨g,c,cur,x1,x2,x3⟩
    ·exact .inl x
    ·exact .inr ⟨g,c,cur,x1,by omega,x3⟩
 ·intro i j x u k h1 h2 h3 h4;have pick:∀i x,(pv++[v])[i]?=aE x->(i<pv.length/\pv[i]?=aE x)\/(i=pv.length/\x=v):=λi x hx=>by
   rcases N.hU hx with hh|hh
   ·exact .inl ⟨(bI.1 hh).1,hh⟩
   ·exact .inr hh
  have qU:∀i x,i<pv.length->pv[i]?=aE x->x.ownBlock=aE k->k<w.heap.size:=λi x hi hx hk=>by
   have eQ:i<d.opens.reverse.length:=by rw[<-h.xP];exact hi
   exact((h.waits i _ x (bL eQ) hx).lt k hk).2
  rcases pick i x h1 with ⟨a1,a2⟩|⟨a1,rfl⟩ <;> rcases pick j u h2 with ⟨b1,b2⟩|⟨b1,rfl⟩
  ·exact h.apart i j x u k a2 b2 h3 h4
  ·have:=qU i x a1 a2 h3;have:=(eY k h4).1;omega
  ·have:=qU j u b1 b2 h4;have:=(eY k h3).1;omega
  ·omega
 ·intro x hx;rcases List.mem_cons.1 hx with rfl|hx
  ·exact Dl
  ·exact h.low x hx
 ·have h1:bA B w W:=hb.mono hBw;have hBv:∀k,vP.ownBlock=aE k->B<=k:=λk hk=>(h.opens.lt k hk).1
  have h2:bA B W w3:=⟨hg.os,hg.tape,hg.output,hg.size,λk hk=>hg.block k (by have:=h1.size;omega) λe=>by have:=hBv k e.symm;omega⟩
  exact(h1.trans h2).setCell h.hB _
theorem LA (B:Nat)(w:aY)(dd p:Nat)(vD vP:aG)(pv:List aG)(wv:List Own)(d:N.iY)(h:dM B w dd vD vP pv wv d)(DV:p<=60)(nV:p<d.body.length)(sD:d.opens.length+1<=60):
 bH aQ 140 #[aK (aE ⟨dd,0,aC⟩),aI ⟨#[105,102]⟩,aH aF p] w λr w' =>r=aM (bC #[])/\∃sU rL,dM B w' dd vD sU rL wv ⟨d.body,⟨N.mM,p,[p]⟩::d.opens⟩/\bA B w w' :=by
 obtain⟨i3,hi,hz,hs,jP⟩:=yD;obtain⟨aP,cP,Jx⟩:∃a c,vP=aJ a d.opens.length c:=by
  rcases h.opens.2 with ⟨h1,h2⟩|⟨g,cap,cur,h1,_⟩
  ·exact⟨aC,0,by rw[h1,h2]⟩
  ·exact⟨_,_,h1⟩
 subst Jx;have gK:=cq 1 h.blk rfl;have Nm:=bG 1 h.blk;have jD:aE dd≠(aJ aP d.opens.length cP).ownBlock:=λe=>h.mP.2.1 e.symm
 have hBw:B<=w.heap.size:=cF h.hB (cN (cC h.blk));have tB:bA w.heap.size w ((w.alloc (aU #[aH aF p] 3)).alloc (aU #[aI ⟨#[105,102]⟩,aH aF p,aJ (aE ⟨w.heap.size,0,aC⟩) 1 1] 223)):=((bF _ _).alloc (bD _) _).alloc (by simp) _;have eY:((w.alloc (aU #[aH aF p] 3)).alloc (aU #[aI ⟨#[105,102]⟩,aH aF p,aJ (aE ⟨w.heap.size,0,aC⟩) 1 1] 223)).heap[(w.heap.size+1)]?=aE (aU #[aI ⟨#[105,102]⟩,aH aF p,aJ (aE ⟨w.heap.size,0,aC⟩) 1 1] 223):=lF w _ _;have fK:((w.alloc (aU #[aH aF p] 3)).alloc (aU #[aI ⟨#[105,102]⟩,aH aF p,aJ (aE ⟨w.heap.size,0,aC⟩) 1 1] 223)).ownsRow B 223 3 (aJ aP d.opens.length cP) d.opens.length (fX d.opens.reverse pv):=(h.opens.alloc _).alloc _;have Sw:((w.alloc (aU #[aH aF p] 3)).alloc (aU #[aI ⟨#[105,102]⟩,aH aF p,aJ (aE ⟨w.heap.size,0,aC⟩) 1 1] 223)).ownsRow w.heap.size 3 1 (aJ (aE ⟨w.heap.size,0,aC⟩) 1 1) ([p]:List Nat).length (([p]:List Nat).map nU):=by
  have h1:(w.alloc (aU #[aH aF p] 3)).ownsRow w.heap.size 3 1 (aJ (aE ⟨w.heap.size,0,aC⟩) 1 1) 1 [nU p]:=⟨rfl,.inr ⟨w.heap.size,1,#[aH aF p],rfl,bD _,heap_alloc_new w _,bD _,by decide,rfl,rfl⟩⟩
  exact h1.alloc _
 have e1:((w.alloc (aU #[aH aF p] 3)).alloc (aU #[aI ⟨#[105,102]⟩,aH aF p,aJ (aE ⟨w.heap.size,0,aC⟩) 1 1] 223)).cell? ⟨dd,1,aC⟩=aE (aJ aP d.opens.length cP):=bJ (bJ gK _) _;have f1:((w.alloc (aU #[aH aF p] 3)).alloc (aU #[aI ⟨#[105,102]⟩,aH aF p,aJ (aE ⟨w.heap.size,0,aC⟩) 1 1] 223)).frozen? ⟨dd,1,aC⟩=aV:=cY (bU _ _ aC) (bJ gK _) (cY (bU _ _ aC) gK Nm (by simp)) (by simp);have H:=bE h;have HW:=bE Sw;have HO:=bE fK;have HN:=bE eY;have HB:=bE tB;have hlen:=nO h.xP;rw[List.length_reverse] at hlen;have O5:=sD;clear h Sw fK eY tB Nm;go_enter func140,ntmps140;go_wp2_with (
  at_builtin
  refine wpList_append_lies _ (by rfl) (.tmp 16) (.tmp 22) 199 (by rfl) B 223 i3 (bM #[aI ⟨#[]⟩,aH aF 0,aJ aC 0 0]) 3 48 underlying199 hi hz hs jP rfl (by decide) (aJ aP d.opens.length cP) d.opens.length (fX d.opens.reverse pv) (by rfl) (by exact aN HO) ⟨(w.heap.size+1),0,aC⟩ 1 1 [aI ⟨#[105,102]⟩,aH aF p,aJ (aE ⟨w.heap.size,0,aC⟩) 1 1] (by rfl) rfl (aY.news_of_block (aN HN)) (λu hu=>by simp at hu;rcases hu with rfl|rfl|rfl <;> rfl) (by decide) (by unfold maxLen;omega) (by omega) (by have:=(aN HB).size;omega) _ rfl ?_;intro g3 iG w3 jM dK qH Cc;have e5:=dK.cell e1 jD;have f5:=cY dK e1 f1 jD;have G3:=bE dK;have O3:=bE jM;clear dK jM qH)
 go_end0;have sS:=(aN H).push (aN HB) ⟨N.mM,p,[p]⟩ (aN HW) (aN G3) (aN O3) O5 ⟨DV,by simp,λq hq=>by rw[dE] at hq;subst hq;exact nV⟩;exact⟨rfl,_,_,sS.1,sS.2⟩
theorem JL (B:Nat)(w:aY)(dd p:Nat)(vD vP:aG)(pv:List aG)(wv:List Own)(d:N.iY)(h:dM B w dd vD vP pv wv d)(DV:p<=60)(nV:p<d.body.length)(sD:d.opens.length+1<=60):
 bH aQ 140 #[aK (aE ⟨dd,0,aC⟩),aI ⟨#[100,111]⟩,aH aF p] w λr w' =>r=aM (bC #[])/\∃sU rL,dM B w' dd vD sU rL wv ⟨d.body,⟨N.iR,p,[p]⟩::d.opens⟩/\bA B w w' :=by
 obtain⟨i3,hi,hz,hs,jP⟩:=yD;obtain⟨aP,cP,Jx⟩:∃a c,vP=aJ a d.opens.length c:=by
  rcases h.opens.2 with ⟨h1,h2⟩|⟨g,cap,cur,h1,_⟩
  ·exact⟨aC,0,by rw[h1,h2]⟩
  ·exact⟨_,_,h1⟩
 subst Jx;have gK:=cq 1 h.blk rfl;have Nm:=bG 1 h.blk;have jD:aE dd≠(aJ aP d.opens.length cP).ownBlock:=λe=>h.mP.2.1 e.symm
 have hBw:B<=w.heap.size:=cF h.hB (cN (cC h.blk));have tB:bA w.heap.size w ((w.alloc (aU #[aH aF p] 3)).alloc (aU #[aI ⟨#[100,111]⟩,aH aF p,aJ (aE ⟨w.heap.size,0,aC⟩) 1 1] 223)):=((bF _ _).alloc (bD _) _).alloc (by simp) _;have eY:((w.alloc (aU #[aH aF p] 3)).alloc (aU #[aI ⟨#[100,111]⟩,aH aF p,aJ (aE ⟨w.heap.size,0,aC⟩) 1 1] 223)).heap[(w.heap.size+1)]?=aE (aU #[aI ⟨#[100,111]⟩,aH aF p,aJ (aE ⟨w.heap.size,0,aC⟩) 1 1] 223):=lF w _ _;have fK:((w.alloc (aU #[aH aF p] 3)).alloc (aU #[aI ⟨#[100,111]⟩,aH aF p,aJ (aE ⟨w.heap.size,0,aC⟩) 1 1] 223)).ownsRow B 223 3 (aJ aP d.opens.length cP) d.opens.length (fX d.opens.reverse pv):=(h.opens.alloc _).alloc _;have Sw:((w.alloc (aU #[aH aF p] 3)).alloc (aU #[aI ⟨#[100,111]⟩,aH aF p,aJ (aE ⟨w.heap.size,0,aC⟩) 1 1] 223)).ownsRow w.heap.size 3 1 (aJ (aE ⟨w.heap.size,0,aC⟩) 1 1) ([p]:List Nat).length (([p]:List Nat).map nU):=by
  have h1:(w.alloc (aU #[aH aF p] 3)).ownsRow w.heap.size 3 1 (aJ (aE ⟨w.heap.size,0,aC⟩) 1 1) 1 [nU p]:=⟨rfl,.inr ⟨w.heap.size,1,#[aH aF p],rfl,bD _,heap_alloc_new w _,bD _,by decide,rfl,rfl⟩⟩
  exact h1.alloc _
 have e1:((w.alloc (aU #[aH aF p] 3)).alloc (aU #[aI ⟨#[100,111]⟩,aH aF p,aJ (aE ⟨w.heap.size,0,aC⟩) 1 1] 223)).cell? ⟨dd,1,aC⟩=aE (aJ aP d.opens.length cP):=bJ (bJ gK _) _;have f1:((w.alloc (aU #[aH aF p] 3)).alloc (aU #[aI ⟨#[100,111]⟩,aH aF p,aJ (aE ⟨w.heap.size,0,aC⟩) 1 1] 223)).frozen? ⟨dd,1,aC⟩=aV:=cY (bU _ _ aC) (bJ gK _) (cY (bU _ _ aC) gK Nm (by simp)) (by simp);have H:=bE h;have HW:=bE Sw;have HO:=bE fK;have HN:=bE eY;have HB:=bE tB;have hlen:=nO h.xP;rw[List.length_reverse] at hlen;have O5:=sD;clear h Sw fK eY tB Nm;go_enter func140,ntmps140;go_wp2_with (
  at_builtin
  refine wpList_append_lies _ (by rfl) (.tmp 16) (.tmp 22) 199 (by rfl) B 223 i3 (bM #[aI ⟨#[]⟩,aH aF 0,aJ aC 0 0]) 3 48 underlying199 hi hz hs jP rfl (by decide) (aJ aP d.opens.length cP) d.opens.length (fX d.opens.reverse pv) (by rfl) (by exact aN HO) ⟨(w.heap.size+1),0,aC⟩ 1 1 [aI ⟨#[100,111]⟩,aH aF p,aJ (aE ⟨w.heap.size,0,aC⟩) 1 1] (by rfl) rfl (aY.news_of_block (aN HN)) (λu hu=>by simp at hu;rcases hu with rfl|rfl|rfl <;> rfl) (by decide) (by unfold maxLen;omega) (by omega) (by have:=(aN HB).size;omega) _ rfl ?_;intro g3 iG w3 jM dK qH Cc;have e5:=dK.cell e1 jD;have f5:=cY dK e1 f1 jD;have G3:=bE dK;have O3:=bE jM;clear dK jM qH)
 go_end0;have sS:=(aN H).push (aN HB) ⟨N.iR,p,[p]⟩ (aN HW) (aN G3) (aN O3) O5 ⟨DV,by simp,λq hq=>by rw[dE] at hq;subst hq;exact nV⟩;exact⟨rfl,_,_,sS.1,sS.2⟩
theorem Zs (B:Nat)(w:aY)(dd p:Nat)(vD vP:aG)(pv:List aG)(wv:List Own)(d:N.iY)(h:dM B w dd vD vP pv wv d)(DV:p<=60)(sD:d.opens.length+1<=60):
 bH aQ 140 #[aK (aE ⟨dd,0,aC⟩),aI ⟨#[98,101,103,105,110]⟩,aH aF p] w λr w' =>r=aM (bC #[])/\∃sU rL,dM B w' dd vD sU rL wv ⟨d.body,⟨N.dT,p,[]⟩::d.opens⟩/\bA B w w' :=by
 obtain⟨i3,hi,hz,hs,jP⟩:=yD;obtain⟨aP,cP,Jx⟩:∃a c,vP=aJ a d.opens.length c:=by
  rcases h.opens.2 with ⟨h1,h2⟩|⟨g,cap,cur,h1,_⟩
  ·exact⟨aC,0,by rw[h1,h2]⟩
  ·exact⟨_,_,h1⟩
 subst Jx;have gK:=cq 1 h.blk rfl;have Nm:=bG 1 h.blk;have jD:aE dd≠(aJ aP d.opens.length cP).ownBlock:=λe=>h.mP.2.1 e.symm
 have hBw:B<=w.heap.size:=cF h.hB (cN (cC h.blk));have tB:bA w.heap.size w (w.alloc (aU #[aI ⟨#[98,101,103,105,110]⟩,aH aF p,aJ aC 0 0] 223)):=(bF _ _).alloc (bD _) _;have eY:(w.alloc (aU #[aI ⟨#[98,101,103,105,110]⟩,aH aF p,aJ aC 0 0] 223)).heap[w.heap.size]?=aE (aU #[aI ⟨#[98,101,103,105,110]⟩,aH aF p,aJ aC 0 0] 223):=heap_alloc_new w _;have fK:(w.alloc (aU #[aI ⟨#[98,101,103,105,110]⟩,aH aF p,aJ aC 0 0] 223)).ownsRow B 223 3 (aJ aP d.opens.length cP) d.opens.length (fX d.opens.reverse pv):=h.opens.alloc _;have Sw:(w.alloc (aU #[aI ⟨#[98,101,103,105,110]⟩,aH aF p,aJ aC 0 0] 223)).ownsRow w.heap.size 3 1 (aJ aC 0 0) ([]:List Nat).length (([]:List Nat).map nU):=aY.ownsRow_nil _ _ _ _;have e1:(w.alloc (aU #[aI ⟨#[98,101,103,105,110]⟩,aH aF p,aJ aC 0 0] 223)).cell? ⟨dd,1,aC⟩=aE (aJ aP d.opens.length cP):=bJ gK _;have f1:(w.alloc (aU #[aI ⟨#[98,101,103,105,110]⟩,aH aF p,aJ aC 0 0] 223)).frozen? ⟨dd,1,aC⟩=aV:=cY (bU _ _ aC) gK Nm (by simp);have H:=bE h;have HW:=bE Sw;have HO:=bE fK;have HN:=bE eY;have HB:=bE tB;have hlen:=nO h.xP;rw[List.length_reverse] at hlen;have O5:=sD;clear h Sw fK eY tB Nm;go_enter func140,ntmps140;go_wp2_with (
  at_builtin
  refine wpList_append_lies _ (by rfl) (.tmp 32) (.tmp 36) 199 (by rfl) B 223 i3 (bM #[aI ⟨#[]⟩,aH aF 0,aJ aC 0 0]) 3 48 underlying199 hi hz hs jP rfl (by decide) (aJ aP d.opens.length cP) d.opens.length (fX d.opens.reverse pv) (by rfl) (by exact aN HO) ⟨w.heap.size,0,aC⟩ 1 1 [aI ⟨#[98,101,103,105,110]⟩,aH aF p,aJ aC 0 0] (by rfl) rfl (aY.news_of_block (aN HN)) (λu hu=>by simp at hu;rcases hu with rfl|rfl|rfl <;> rfl) (by decide) (by unfold maxLen;omega) (by omega) (by have:=(aN HB).size;omega) _ rfl ?_;intro g3 iG w3 jM dK qH Cc;have e5:=dK.cell e1 jD;have f5:=cY dK e1 f1 jD;have G3:=bE dK;have O3:=bE jM;clear dK jM qH)
 go_end0;have sS:=(aN H).push (aN HB) ⟨N.dT,p,[]⟩ (aN HW) (aN G3) (aN O3) O5 ⟨DV,by simp,λq hq=>by simp at hq⟩;exact⟨rfl,_,_,sS.1,sS.2⟩
theorem B1 (B:Nat)(w:aY)(dd p:Nat)(vD vP:aG)(pv:List aG)(wv:List Own)(b:List (N.Cell×Nat))(o:N.Part)(t:List N.Part)(h:dM B w dd vD vP pv wv ⟨b,o::t⟩)(hw:∀p∈o.waits,∃c g,b[p]?=aE (c,g)/\c.kind=4)(DV:p<=60)(nV:p<b.length):
 bH aQ 140 #[aK (aE ⟨dd,0,aC⟩),aI ⟨#[101,108,115,101]⟩,aH aF p] w λr w' =>r=aM (bC #[])/\∃sU rL,dM B w' dd vD sU rL wv ⟨(N.shut ⟨b,o::t⟩).body,⟨N.fA,p,[p]⟩::(N.shut ⟨b,o::t⟩).opens⟩/\bA B w w' :=by
 have Oh:=zG B w dd vD vP pv wv b o t h hw;have UX:=h.vI;have hlenb:(N.shut ⟨b,o::t⟩).body.length=b.length:=JC _ _ _;have sD:(N.shut ⟨b,o::t⟩).opens.length+1<=60:=by
  simp only[cX] at UX;exact UX
 generalize N.shut ⟨b,o::t⟩=d at*;have HS:=bE Oh;clear Oh h UX;obtain⟨i3,hi,hz,hs,jP⟩:=yD;go_enter func140,ntmps140;go_wp2_with fail
 refine(aN HS).mono ?_;rintro e w2 ⟨rfl,vP2,VI,h,bq⟩;obtain⟨aP,cP,Jx⟩:∃a c,vP2=aJ a d.opens.length c:=by
  rcases h.opens.2 with ⟨h1,h2⟩|⟨g,cap,cur,h1,_⟩
  ·exact⟨aC,0,by rw[h1,h2]⟩
  ·exact⟨_,_,h1⟩
 subst Jx;have gK:=cq 1 h.blk rfl;have Nm:=bG 1 h.blk;have jD:aE dd≠(aJ aP d.opens.length cP).ownBlock:=λe=>h.mP.2.1 e.symm
 have hBw:B<=w2.heap.size:=cF h.hB (cN (cC h.blk));have tB:bA w2.heap.size w2 ((w2.alloc (aU #[aH aF p] 3)).alloc (aU #[aI ⟨#[101,108,115,101]⟩,aH aF p,aJ (aE ⟨w2.heap.size,0,aC⟩) 1 1] 223)):=((bF _ _).alloc (bD _) _).alloc (by simp) _;have eY:((w2.alloc (aU #[aH aF p] 3)).alloc (aU #[aI ⟨#[101,108,115,101]⟩,aH aF p,aJ (aE ⟨w2.heap.size,0,aC⟩) 1 1] 223)).heap[(w2.heap.size+1)]?=aE (aU #[aI ⟨#[101,108,115,101]⟩,aH aF p,aJ (aE ⟨w2.heap.size,0,aC⟩) 1 1] 223):=lF w2 _ _;have fK:((w2.alloc (aU #[aH aF p] 3)).alloc (aU #[aI ⟨#[101,108,115,101]⟩,aH aF p,aJ (aE ⟨w2.heap.size,0,aC⟩) 1 1] 223)).ownsRow B 223 3 (aJ aP d.opens.length cP) d.opens.length (fX d.opens.reverse VI):=(h.opens.alloc _).alloc _;have Sw:((w2.alloc (aU #[aH aF p] 3)).alloc (aU #[aI ⟨#[101,108,115,101]⟩,aH aF p,aJ (aE ⟨w2.heap.size,0,aC⟩) 1 1] 223)).ownsRow w2.heap.size 3 1 (aJ (aE ⟨w2.heap.size,0,aC⟩) 1 1) ([p]:List Nat).length (([p]:List Nat).map nU):=by
  have h1:(w2.alloc (aU #[aH aF p] 3)).ownsRow w2.heap.size 3 1 (aJ (aE ⟨w2.heap.size,0,aC⟩) 1 1) 1 [nU p]:=⟨rfl,.inr ⟨w2.heap.size,1,#[aH aF p],rfl,bD _,heap_alloc_new w2 _,bD _,by decide,rfl,rfl⟩⟩
  exact h1.alloc _
 have e1:((w2.alloc (aU #[aH aF p] 3)).alloc (aU #[aI ⟨#[101,108,115,101]⟩,aH aF p,aJ (aE ⟨w2.heap.size,0,aC⟩) 1 1] 223)).cell? ⟨dd,1,aC⟩=aE (aJ aP d.opens.length cP):=bJ (bJ gK _) _;have f1:((w2.alloc (aU #[aH aF p] 3)).alloc (aU #[aI ⟨#[101,108,115,101]⟩,aH aF p,aJ (aE ⟨w2.heap.size,0,aC⟩) 1 1] 223)).frozen? ⟨dd,1,aC⟩=aV:=cY (bU _ _ aC) (bJ gK _) (cY (bU _ _ aC) gK Nm (by simp)) (by simp);have H:=bE h;have HW:=bE Sw;have HO:=bE fK;have HN:=bE eY;have HB:=bE tB;have HBw:=bE bq;have hlen:=nO h.xP;rw[List.length_reverse] at hlen;clear h Sw fK eY tB Nm bq;go_wp2_with (
  at_builtin
  refine wpList_append_lies _ (by rfl) (.tmp 48) (.tmp 54) 199 (by rfl) B 223 i3 (bM #[aI ⟨#[]⟩,aH aF 0,aJ aC 0 0]) 3 48 underlying199 hi hz hs jP rfl (by decide) (aJ aP d.opens.length cP) d.opens.length (fX d.opens.reverse VI) (by rfl) (by exact aN HO) ⟨(w2.heap.size+1),0,aC⟩ 1 1 [aI ⟨#[101,108,115,101]⟩,aH aF p,aJ (aE ⟨w2.heap.size,0,aC⟩) 1 1] (by rfl) rfl (aY.news_of_block (aN HN)) (λu hu=>by simp at hu;rcases hu with rfl|rfl|rfl <;> rfl) (by decide) (by unfold maxLen;omega) (by omega) (by have:=(aN HB).size;omega) _ rfl ?_;intro g3 iG w3 jM dK qH Cc;have e5:=dK.cell e1 jD;have f5:=cY dK e1 f1 jD;have G3:=bE dK;have O3:=bE jM;clear dK jM qH)
 go_end0;have sS:=(aN H).push (aN HB) ⟨N.fA,p,[p]⟩ (aN HW) (aN G3) (aN O3) sD ⟨DV,by simp,λq hq=>by rw[dE] at hq;subst hq;omega⟩;exact⟨rfl,_,_,sS.1,(aN HBw).trans sS.2⟩
theorem F3 (B:Nat)(w:aY)(dd p:Nat)(vD vP:aG)(pv:List aG)(wv:List Own)(b:List (N.Cell×Nat))(o:N.Part)(t:List N.Part)(h:dM B w dd vD vP pv wv ⟨b,o::t⟩)(hw:∀p∈o.waits,∃c g,b[p]?=aE (c,g)/\c.kind=4):
 bH aQ 140 #[aK (aE ⟨dd,0,aC⟩),aI ⟨#[116,104,101,110]⟩,aH aF p] w λr w' =>r=aM (bC #[])/\∃sU rL,dM B w' dd vD sU rL wv (N.shut ⟨b,o::t⟩)/\bA B w w' :=by
 have HS:=bE (zG B w dd vD vP pv wv b o t h hw);clear h hw;go_enter func140,ntmps140;go_wp2_with fail
 refine(aN HS).mono ?_;rintro e w2 ⟨rfl,hh⟩;have HH:=bE hh;clear hh;go_wp2;go_end0;exact⟨rfl,aN HH⟩
theorem Yt (B:Nat)(w:aY)(dd p:Nat)(vD vP:aG)(pv:List aG)(wv:List Own)(b:List (N.Cell×Nat))(o:N.Part)(t:List N.Part)(c:N.Cell)(g0:Nat)(h:dM B w dd vD vP pv wv ⟨b,o::t⟩)(hw:∀p∈o.waits,∃c g,b[p]?=aE (c,g)/\c.kind=4)(hc:b[p]?=aE (c,g0))(hk:c.kind=4):
 bH aQ 140 #[aK (aE ⟨dd,0,aC⟩),aI ⟨#[117,110,116,105,108]⟩,aH aF p] w λr w' =>r=aM (bC #[])/\∃sU rL,dM B w' dd vD sU rL wv (N.shut ⟨N.qK b p (o.start+1),o::t⟩)/\bA B w w' :=by
 have pS:∀W,bA w.heap.size w W->bH aQ 146 #[aK (aE ⟨dd,0,aC⟩),aH aF p,aH aF ((o.start:Int)+1)] W λr w' =>r=aM (bC #[])/\dM B w' dd vD vP pv wv ⟨N.qK b p (o.start+1),o::t⟩/\bA B w w' :=λW hb=>by
  have:=Df B W dd vD vP pv wv ⟨b,o::t⟩ p (o.start+1) c g0 (h.below hb) hc hk;have hBw:B<=w.heap.size:=cF h.hB (cN (cC h.blk));refine this.mono λr w' hh=>⟨hh.1,hh.2.1,(hb.mono hBw).trans hh.2.2⟩
 have Oh:∀w2,dM B w2 dd vD vP pv wv ⟨N.qK b p (o.start+1),o::t⟩->bH aQ 145 #[aK (aE ⟨dd,0,aC⟩)] w2 λr w' =>r=aM (bC #[])/\∃sU rL,dM B w' dd vD sU rL wv (N.shut ⟨N.qK b p (o.start+1),o::t⟩)/\bA B w2 w' :=λw2 h2=>
  zG B w2 dd vD vP pv wv _ o t h2 λq hq=>by
   obtain⟨c',g',h1,h2⟩:=hw q hq;obtain⟨g1,h3⟩:=wT [p] (o.start+1) h1;exact⟨c',g1,h3,h2⟩
 obtain⟨rL,v,gP,cP,hpv,nV,Jx,bh,VR,_,c1,_,_⟩:=h.last;subst Jx;have sD:=h.vI;have Dl:=(h.low o eF).1;simp only[cX] at sD;have e1:=cq 1 h.blk rfl;have HG:=bE pS;have HS:=bE Oh;clear pS Oh h hw hc;generalize hm:t.length=m at*;generalize hn:m+1=n at*;have i0:aF.wrap ((n:Int)-1)=(m:Int):=wj;have i1:(0:Int)<=(m:Int):=by omega
 have i2:(m:Int)<(n:Int):=by omega
 have i3:=wi ((o.start:Int)+1);have Hn:=bE hn;clear hn hm;go_enter func140,ntmps140;go_wp2;go_region_held3 (λw' =>w'.cell? ⟨dd,1,aC⟩=aE (aJ (aE ⟨gP,0,aC⟩) n cP)/\w'.cell? ⟨gP,m*3+1,aC⟩=aE (aH aF (o.start:Int))) (first|exact⟨e1,c1⟩|exact(by assumption)|go_keep)
  ((go_at_call 146;refine(aN HG _ (bF _ _).drew).mono ?_
    rintro e w2 ⟨rfl,zO,eD⟩;have oC:=zO.last;have e1:=cq 1 zO.blk rfl;have c1:w2.cell? ⟨gP,m*3+1,aC⟩=aE (aH aF (o.start:Int)):=by
     obtain⟨_,_,g',c',_,_,Vh,_,_,_,GQ,_⟩:=oC;have ht:t.length=m:=by
      have:=congrArg (λv=>match v with|aJ _ k _=>k|_=>0) Vh;simp only at this;have:=aN Hn;omega
     injection Vh with Gv;injection Gv with Gv;injection Gv with Gv;rw[Gv,<-ht];exact GQ
    have UW:=bE (bK zO eD);clear zO eD oC))
 go_wp2_with fail
 refine(aN HS _ (aN UW).1).mono ?_;rintro e w3 ⟨rfl,sU,VI,EO,eW⟩;have H3:=bE (bK EO ((aN UW).2.trans eW));clear EO eW;go_wp2;go_end0;exact⟨rfl,sU,VI,(aN H3).1,(aN H3).2⟩
theorem Yq (B:Nat)(w:aY)(dd p:Nat)(vD vP:aG)(pv:List aG)(wv:List Own)(b:List (N.Cell×Nat))(o:N.Part)(t:List N.Part)(c:N.Cell)(g0:Nat)(h:dM B w dd vD vP pv wv ⟨b,o::t⟩)(hw:∀p∈o.waits,∃c g,b[p]?=aE (c,g)/\c.kind=4)(hc:b[p]?=aE (c,g0))(hk:c.kind=4):
 bH aQ 140 #[aK (aE ⟨dd,0,aC⟩),aI ⟨#[97,103,97,105,110]⟩,aH aF p] w λr w' =>r=aM (bC #[])/\∃sU rL,dM B w' dd vD sU rL wv (N.shut ⟨N.qK b p (o.start+1),o::t⟩)/\bA B w w' :=by
 have pS:∀W,bA w.heap.size w W->bH aQ 146 #[aK (aE ⟨dd,0,aC⟩),aH aF p,aH aF ((o.start:Int)+1)] W λr w' =>r=aM (bC #[])/\dM B w' dd vD vP pv wv ⟨N.qK b p (o.start+1),o::t⟩/\bA B w w' :=λW hb=>by
  have:=Df B W dd vD vP pv wv ⟨b,o::t⟩ p (o.start+1) c g0 (h.below hb) hc hk;have hBw:B<=w.heap.size:=cF h.hB (cN (cC h.blk));refine this.mono λr w' hh=>⟨hh.1,hh.2.1,(hb.mono hBw).trans hh.2.2⟩
 have Oh:∀w2,dM B w2 dd vD vP pv wv ⟨N.qK b p (o.start+1),o::t⟩->bH aQ 145 #[aK (aE ⟨dd,0,aC⟩)] w2 λr w' =>r=aM (bC #[])/\∃sU rL,dM B w' dd vD sU rL wv (N.shut ⟨N.qK b p (o.start+1),o::t⟩)/\bA B w2 w' :=λw2 h2=>
  zG B w2 dd vD vP pv wv _ o t h2 λq hq=>by
   obtain⟨c',g',h1,h2⟩:=hw q hq;obtain⟨g1,h3⟩:=wT [p] (o.start+1) h1;exact⟨c',g1,h3,h2⟩
 obtain⟨rL,v,gP,cP,hpv,nV,Jx,bh,VR,_,c1,_,_⟩:=h.last;subst Jx;have sD:=h.vI;have Dl:=(h.low o eF).1;simp only[cX] at sD;have e1:=cq 1 h.blk rfl;have HG:=bE pS;have HS:=bE Oh;clear pS Oh h hw hc;generalize hm:t.length=m at*;generalize hn:m+1=n at*;have i0:aF.wrap ((n:Int)-1)=(m:Int):=wj;have i1:(0:Int)<=(m:Int):=by omega
 have i2:(m:Int)<(n:Int):=by omega
 have i3:=wi ((o.start:Int)+1);have Hn:=bE hn;clear hn hm;go_enter func140,ntmps140;go_wp2;go_region_held3 (λw' =>w'.cell? ⟨dd,1,aC⟩=aE (aJ (aE ⟨gP,0,aC⟩) n cP)/\w'.cell? ⟨gP,m*3+1,aC⟩=aE (aH aF (o.start:Int))) (first|exact⟨e1,c1⟩|exact(by assumption)|go_keep)
  ((go_at_call 146;refine(aN HG _ (bF _ _).drew).mono ?_
    rintro e w2 ⟨rfl,zO,eD⟩;have oC:=zO.last;have e1:=cq 1 zO.blk rfl;have c1:w2.cell? ⟨gP,m*3+1,aC⟩=aE (aH aF (o.start:Int)):=by
     obtain⟨_,_,g',c',_,_,Vh,_,_,_,GQ,_⟩:=oC;have ht:t.length=m:=by
      have:=congrArg (λv=>match v with|aJ _ k _=>k|_=>0) Vh;simp only at this;have:=aN Hn;omega
     injection Vh with Gv;injection Gv with Gv;injection Gv with Gv;rw[Gv,<-ht];exact GQ
    have UW:=bE (bK zO eD);clear zO eD oC))
 go_wp2_with fail
 refine(aN HS _ (aN UW).1).mono ?_;rintro e w3 ⟨rfl,sU,VI,EO,eW⟩;have H3:=bE (bK EO ((aN UW).2.trans eW));clear EO eW;go_wp2;go_end0;exact⟨rfl,sU,VI,(aN H3).1,(aN H3).2⟩
theorem Uy (B:Nat)(w:aY)(dd p:Nat)(vD vP:aG)(pv:List aG)(wv:List Own)(b:List (N.Cell×Nat))(o:N.Part)(t:List N.Part)(c:N.Cell)(g0:Nat)(h:dM B w dd vD vP pv wv ⟨b,o::t⟩)(hw:∀p∈o.waits,∃c g,b[p]?=aE (c,g)/\c.kind=4)(hc:b[p]?=aE (c,g0))(hk:c.kind=4):
 bH aQ 140 #[aK (aE ⟨dd,0,aC⟩),aI ⟨#[114,101,112,101,97,116]⟩,aH aF p] w λr w' =>r=aM (bC #[])/\∃sU rL,dM B w' dd vD sU rL wv (N.shut ⟨N.qK b p (o.start+1),o::t⟩)/\bA B w w' :=by
 have pS:∀W,bA w.heap.size w W->bH aQ 146 #[aK (aE ⟨dd,0,aC⟩),aH aF p,aH aF ((o.start:Int)+1)] W λr w' =>r=aM (bC #[])/\dM B w' dd vD vP pv wv ⟨N.qK b p (o.start+1),o::t⟩/\bA B w w' :=λW hb=>by
  have:=Df B W dd vD vP pv wv ⟨b,o::t⟩ p (o.start+1) c g0 (h.below hb) hc hk;have hBw:B<=w.heap.size:=cF h.hB (cN (cC h.blk));refine this.mono λr w' hh=>⟨hh.1,hh.2.1,(hb.mono hBw).trans hh.2.2⟩
 have Oh:∀w2,dM B w2 dd vD vP pv wv ⟨N.qK b p (o.start+1),o::t⟩->bH aQ 145 #[aK (aE ⟨dd,0,aC⟩)] w2 λr w' =>r=aM (bC #[])/\∃sU rL,dM B w' dd vD sU rL wv (N.shut ⟨N.qK b p (o.start+1),o::t⟩)/\bA B w2 w' :=λw2 h2=>
  zG B w2 dd vD vP pv wv _ o t h2 λq hq=>by
   obtain⟨c',g',h1,h2⟩:=hw q hq;obtain⟨g1,h3⟩:=wT [p] (o.start+1) h1;exact⟨c',g1,h3,h2⟩
 obtain⟨rL,v,gP,cP,hpv,nV,Jx,bh,VR,_,c1,_,_⟩:=h.last;subst Jx;have sD:=h.vI;have Dl:=(h.low o eF).1;simp only[cX] at sD;have e1:=cq 1 h.blk rfl;have HG:=bE pS;have HS:=bE Oh;clear pS Oh h hw hc;generalize hm:t.length=m at*;generalize hn:m+1=n at*;have i0:aF.wrap ((n:Int)-1)=(m:Int):=wj;have i1:(0:Int)<=(m:Int):=by omega
 have i2:(m:Int)<(n:Int):=by omega
 have i3:=wi ((o.start:Int)+1);have Hn:=bE hn;clear hn hm;go_enter func140,ntmps140;go_wp2;go_region_held3 (λw' =>w'.cell? ⟨dd,1,aC⟩=aE (aJ (aE ⟨gP,0,aC⟩) n cP)/\w'.cell? ⟨gP,m*3+1,aC⟩=aE (aH aF (o.start:Int))) (first|exact⟨e1,c1⟩|exact(by assumption)|go_keep)
  ((go_at_call 146;refine(aN HG _ (bF _ _).drew).mono ?_
    rintro e w2 ⟨rfl,zO,eD⟩;have oC:=zO.last;have e1:=cq 1 zO.blk rfl;have c1:w2.cell? ⟨gP,m*3+1,aC⟩=aE (aH aF (o.start:Int)):=by
     obtain⟨_,_,g',c',_,_,Vh,_,_,_,GQ,_⟩:=oC;have ht:t.length=m:=by
      have:=congrArg (λv=>match v with|aJ _ k _=>k|_=>0) Vh;simp only at this;have:=aN Hn;omega
     injection Vh with Gv;injection Gv with Gv;injection Gv with Gv;rw[Gv,<-ht];exact GQ
    have UW:=bE (bK zO eD);clear zO eD oC))
 go_wp2_with fail
 refine(aN HS _ (aN UW).1).mono ?_;rintro e w3 ⟨rfl,sU,VI,EO,eW⟩;have H3:=bE (bK EO ((aN UW).2.trans eW));clear EO eW;go_wp2;go_end0;exact⟨rfl,sU,VI,(aN H3).1,(aN H3).2⟩
theorem E3 (B:Nat)(w:aY)(dd p:Nat)(vD vP:aG)(pv:List aG)(wv:List Own)(b:List (N.Cell×Nat))(o:N.Part)(t:List N.Part)(c:N.Cell)(g0:Nat)(h:dM B w dd vD vP pv wv ⟨b,o::t⟩)(hw:∀p∈o.waits,∃c g,b[p]?=aE (c,g)/\c.kind=4)(hc:b[p]?=aE (c,g0))(hk:c.kind=4):
 bH aQ 140 #[aK (aE ⟨dd,0,aC⟩),aI ⟨#[108,111,111,112]⟩,aH aF p] w λr w' =>r=aM (bC #[])/\∃sU rL,dM B w' dd vD sU rL wv (N.shut ⟨N.qK b p (o.start+1),o::t⟩)/\bA B w w' :=by
 have pS:∀W,bA w.heap.size w W->bH aQ 146 #[aK (aE ⟨dd,0,aC⟩),aH aF p,aH aF ((o.start:Int)+1)] W λr w' =>r=aM (bC #[])/\dM B w' dd vD vP pv wv ⟨N.qK b p (o.start+1),o::t⟩/\bA B w w' :=λW hb=>by
  have:=Df B W dd vD vP pv wv ⟨b,o::t⟩ p (o.start+1) c g0 (h.below hb) hc hk;have hBw:B<=w.heap.size:=cF h.hB (cN (cC h.blk));refine this.mono λr w' hh=>⟨hh.1,hh.2.1,(hb.mono hBw).trans hh.2.2⟩
 have Oh:∀w2,dM B w2 dd vD vP pv wv ⟨N.qK b p (o.start+1),o::t⟩->bH aQ 145 #[aK (aE ⟨dd,0,aC⟩)] w2 λr w' =>r=aM (bC #[])/\∃sU rL,dM B w' dd vD sU rL wv (N.shut ⟨N.qK b p (o.start+1),o::t⟩)/\bA B w2 w' :=λw2 h2=>
  zG B w2 dd vD vP pv wv _ o t h2 λq hq=>by
   obtain⟨c',g',h1,h2⟩:=hw q hq;obtain⟨g1,h3⟩:=wT [p] (o.start+1) h1;exact⟨c',g1,h3,h2⟩
 obtain⟨rL,v,gP,cP,hpv,nV,Jx,bh,VR,_,c1,_,_⟩:=h.last;subst Jx;have sD:=h.vI;have Dl:=(h.low o eF).1;simp only[cX] at sD;have e1:=cq 1 h.blk rfl;have HG:=bE pS;have HS:=bE Oh;clear pS Oh h hw hc;generalize hm:t.length=m at*;generalize hn:m+1=n at*;have i0:aF.wrap ((n:Int)-1)=(m:Int):=wj;have i1:(0:Int)<=(m:Int):=by omega
 have i2:(m:Int)<(n:Int):=by omega
 have i3:=wi ((o.start:Int)+1);have Hn:=bE hn;clear hn hm;go_enter func140,ntmps140;go_wp2;go_region_held3 (λw' =>w'.cell? ⟨dd,1,aC⟩=aE (aJ (aE ⟨gP,0,aC⟩) n cP)/\w'.cell? ⟨gP,m*3+1,aC⟩=aE (aH aF (o.start:Int))) (first|exact⟨e1,c1⟩|exact(by assumption)|go_keep)
  ((go_at_call 146;refine(aN HG _ (bF _ _).drew).mono ?_
    rintro e w2 ⟨rfl,zO,eD⟩;have oC:=zO.last;have e1:=cq 1 zO.blk rfl;have c1:w2.cell? ⟨gP,m*3+1,aC⟩=aE (aH aF (o.start:Int)):=by
     obtain⟨_,_,g',c',_,_,Vh,_,_,_,GQ,_⟩:=oC;have ht:t.length=m:=by
      have:=congrArg (λv=>match v with|aJ _ k _=>k|_=>0) Vh;simp only at this;have:=aN Hn;omega
     injection Vh with Gv;injection Gv with Gv;injection Gv with Gv;rw[Gv,<-ht];exact GQ
    have UW:=bE (bK zO eD);clear zO eD oC))
 go_wp2_with fail
 refine(aN HS _ (aN UW).1).mono ?_;rintro e w3 ⟨rfl,sU,VI,EO,eW⟩;have H3:=bE (bK EO ((aN UW).2.trans eW));clear EO eW;go_wp2;go_end0;exact⟨rfl,sU,VI,(aN H3).1,(aN H3).2⟩
theorem OP (w:aY)(dd p:Nat):
 bH aQ 140 #[aK (aE ⟨dd,0,aC⟩),aI ⟨#[105]⟩,aH aF p] w λr w' =>r=aM (bC #[])/\w' =w:=by
 go_enter func140,ntmps140;go_wp2;go_end0;exact⟨rfl,rfl⟩
theorem K2 (w:aY)(dd p:Nat):
 bH aQ 140 #[aK (aE ⟨dd,0,aC⟩),aI ⟨#[101,120,105,116]⟩,aH aF p] w λr w' =>r=aM (bC #[])/\w' =w:=by
 go_enter func140,ntmps140;go_wp2;go_end0;exact⟨rfl,rfl⟩
theorem Oq (w:aY)(dd p:Nat):
 bH aQ 140 #[aK (aE ⟨dd,0,aC⟩),aI ⟨#[114,101,99,117,114,115,101]⟩,aH aF p] w λr w' =>r=aM (bC #[])/\w' =w:=by
 go_enter func140,ntmps140;go_wp2;go_end0;exact⟨rfl,rfl⟩
variable {xs:List aG}
theorem RD {a b c a' c' :aG}(n:Nat)(hn:xs.length=n):((xs++[a,b,c]).set n a').set (n+2) c' =xs++[a',b,c']:=by
 subst hn;rw[List.set_append_right _ _ (bD _),Nat.sub_self,List.set_append_right _ _ (by omega),show xs.length+2-xs.length=2 by omega];rfl
theorem dM.turn {gP cP:Nat}{b:List (N.Cell×Nat)}{o:N.Part}{t:List N.Part}(h:dM B w dd vD (aJ (aE ⟨gP,0,aC⟩) (t.length+1) cP) (pv++[v]) wv ⟨b,o::t⟩)(nV:pv.length=t.reverse.length)(hb:bA w.heap.size w W)(o' :N.Part)(jT:o'.start=o.start)(hv:W.ownsRow w.heap.size 3 1 v' o'.waits.length (o'.waits.map nU))(Dl:o'.waits.length<=60/\∀p∈o'.waits,p<b.length):
 dM B ((W.setCell ⟨gP,t.length*3,aC⟩ (aI ⟨o'.kind.toArray⟩)).setCell ⟨gP,t.length*3+2,aC⟩ v') dd vD (aJ (aE ⟨gP,0,aC⟩) (t.length+1) cP) (pv++[v']) wv ⟨b,o' ::t⟩/\bA B w ((W.setCell ⟨gP,t.length*3,aC⟩ (aI ⟨o'.kind.toArray⟩)).setCell ⟨gP,t.length*3+2,aC⟩ v'):=by
 have hW:=h.below hb;obtain⟨n1,n2,n3,n4⟩:=hW.mP;have hBg:B<=gP:=qC h.opens rfl;have hBw:B<=w.heap.size:=cF h.hB (cN (cC h.blk));have hgP:gP<w.heap.size:=(h.opens.lt gP rfl).2;have gZ:∀k,k≠gP->((W.setCell ⟨gP,t.length*3,aC⟩ (aI ⟨o'.kind.toArray⟩)).setCell ⟨gP,t.length*3+2,aC⟩ v').heap[k]?=W.heap[k]?:=λk hk=>(bA.heap_setCell _ _ _ _ hk).trans (bA.heap_setCell _ _ _ _ hk)
 have sC:∀x:N.Part,(x::t).reverse=t.reverse++[x]:=λx=>by simp
 have hlen:=nO nV;rw[List.length_reverse] at hlen;have Sr:=hW.opens;simp only[cX,sC] at Sr;rw[pX nV] at Sr;have NP:=Eb Sr (t.length*3) (by omega) (aI ⟨o'.kind.toArray⟩);have Vg:=Eb NP (t.length*3+2) (by omega) v';rw[RD (t.length*3) hlen] at Vg;refine⟨⟨h.hB,(gZ dd λe=>n2 (by rw[e];rfl)).trans hW.blk,cV hW.body λk e=>gZ k λe2=>n3 k e (by rw[e2];rfl),?_,?_,?_,?_,h.small,h.vI,?_⟩,((hb.mono hBw).setCell hBg _).setCell hBg _⟩
 ·show aY.ownsRow _ _ _ _ _ (t.length+1) (fX (o' ::t).reverse (pv++[v']));rw[sC,pX nV,jT];exact Vg
 ·rw[sC,bN,bN,nV];rfl
 ·intro i x u h1 h2;rw[sC] at h1;rcases N.hU h1 with h1|⟨h1,rfl⟩
  ·have hi:=(bI.1 h1).1;rcases N.hU h2 with h2|⟨h2,rfl⟩
   ·have hw:=hW.waits i x u (by rw[sC,bT hi];exact h1) (by rw[bT (by rw[nV];exact hi)];exact h2);exact cV hw λk e=>gZ k λe2=>(n4 u (List.mem_append_left _ (cG h2))).2.2 gP rfl (e2▸e)
   ·omega
  ·rcases N.hU h2 with h2|⟨h2,rfl⟩
   ·have:=(bI.1 h2).1;omega
   ·have hk:=cV hv (w' :=(W.setCell ⟨gP,t.length*3,aC⟩ (aI ⟨x.kind.toArray⟩)).setCell ⟨gP,t.length*3+2,aC⟩ u) λk e=>gZ k λe2=>by
     have:=(hv.lt k e).1;omega
    refine⟨hk.1,?_⟩;rcases hk.2 with y|⟨g,c,cur,x1,x2,x3⟩
    ·exact .inl y
    ·exact .inr ⟨g,c,cur,x1,by omega,x3⟩
 ·intro i j x u k h1 h2 h3 h4;have qU:∀(i:Nat) (x:aG),pv[i]?=aE x->x.ownBlock=aE k->k<w.heap.size:=λi x hx hk=>by
   have hi:=(bI.1 hx).1;have eQ:i<(o::t).reverse.length:=by rw[sC,bN,<-nV];omega
   exact((h.waits i _ x (bL eQ) (by rw[bT hi];exact hx)).lt k hk).2
  rcases N.hU h1 with a2|⟨a1,rfl⟩ <;> rcases N.hU h2 with b2|⟨b1,rfl⟩
  ·refine h.apart i j x u k ?_ ?_ h3 h4
   ·rw[bT (bI.1 a2).1];exact a2
   ·rw[bT (bI.1 b2).1];exact b2
  ·have:=qU i x a2 h3;have:=(hv.lt k h4).1;omega
  ·have:=qU j u b2 h4;have:=(hv.lt k h3).1;omega
  ·omega
 ·intro x hx;rcases List.mem_cons.1 hx with rfl|hx
  ·exact⟨by rw[jT];exact(h.low o eF).1,Dl⟩
  ·exact h.low x (List.mem_cons_of_mem _ hx)
theorem c6 (B:Nat)(w:aY)(dd p:Nat)(vD vP:aG)(pv:List aG)(wv:List Own)(b:List (N.Cell×Nat))(o:N.Part)(t:List N.Part)(h:dM B w dd vD vP pv wv ⟨b,o::t⟩)(hpl0:p<b.length):
 bH aQ 140 #[aK (aE ⟨dd,0,aC⟩),aI ⟨#[119,104,105,108,101]⟩,aH aF p] w λr w' =>r=aM (bC #[])/\∃sU rL,dM B w' dd vD sU rL wv ⟨b,⟨N.eN,o.start,[p]⟩::t⟩/\bA B w w' :=by
 obtain⟨rL,v,gP,cP,rfl,nV,rfl,bh,VR,c0,c1,c2,_⟩:=h.last;have sD:=h.vI;simp only[cX] at sD;have e1:=cq 1 h.blk rfl;obtain⟨cur,Nx⟩:=cJ h.opens (k:=gP) rfl;have f0:w.frozen? ⟨gP,t.length*3,aC⟩=aV:=bG _ Nx;have f2:w.frozen? ⟨gP,t.length*3+2,aC⟩=aV:=bG _ Nx;have hb:bA w.heap.size w (w.alloc (aU #[aH aF p] 3)).drew:=((bF _ _).alloc (bD _) _).drew;have du:=h.turn nV hb ⟨N.eN,o.start,[p]⟩ rfl (v' :=aJ (aE ⟨w.heap.size,0,aC⟩) 1 1) ⟨rfl,.inr ⟨w.heap.size,1,#[aH aF p],rfl,bD _,heap_alloc_new w _,bD _,by decide,rfl,rfl⟩⟩ ⟨by simp,λq hq=>by rw[dE] at hq;subst hq;exact hpl0⟩;have HT:=bE du;clear du h hb;generalize hm:t.length=m at*;generalize hn:m+1=n at*;have i0:aF.wrap ((n:Int)-1)=(m:Int):=wj;have i1:(0:Int)<=(m:Int):=by omega
 have i2:(m:Int)<(n:Int):=by omega
 have d0:(w.alloc (aU #[aH aF p] 3)).cell? ⟨gP,m*3,aC⟩=aE (aI ⟨o.kind.toArray⟩):=bJ c0 _;have d2:(w.alloc (aU #[aH aF p] 3)).cell? ⟨gP,m*3+2,aC⟩=aE v:=bJ c2 _;have g0:(w.alloc (aU #[aH aF p] 3)).frozen? ⟨gP,m*3,aC⟩=aV:=cY (bU _ _ aC) c0 f0 (by simp);have g2:(w.alloc (aU #[aH aF p] 3)).frozen? ⟨gP,m*3+2,aC⟩=aV:=cY (bU _ _ aC) c2 f2 (by simp);clear hn hm;go_enter func140,ntmps140;go_wp2;go_region_held3 (λw' =>w'.cell? ⟨dd,1,aC⟩=aE (aJ (aE ⟨gP,0,aC⟩) n cP)) (first|exact e1|go_keep) (fail)
 go_wp2;go_end0;exact⟨rfl,_,_,(aN HT).1,(aN HT).2⟩
def Ia (p:Nat) (o:N.Part):N.Part:={o with waits:=o.waits++[p]}
theorem G5 (ks:List (List UInt8))(x:List UInt8):∀n,n<=ks.length->yX (ks++[x]) n=yX ks n
 |0,_=>rfl
 |n+1,h=>by
  unfold yX;rw[bT (by omega),G5 ks x n (by omega)]
theorem WN (ks:List (List UInt8)):∀n k,yX ks n=aE k->k<n
 |0,_,h=>by cases h
 |n+1,k,h=>by
  unfold yX at h
  split at h
  ·injection h with h;omega
  ·have:=WN ks n k h;omega
variable {α:Type}
theorem AE (l m:List α)(f:α->α):∀k,k<l.length->(l++m).modify k f=l.modify k f++m:=by
 intro k hk;apply List.ext_getElem?;intro i;rw[List.getElem?_modify];by_cases hi:i<l.length
 ·rw[bT hi,bT (by rw[List.length_modify];exact hi),List.getElem?_modify]
 ·rw[bP (by omega),bP (by rw[List.length_modify];omega),List.length_modify];cases m[i-l.length]? with
  |none=>rfl
  |some x=>
   show aE (if k=i then f x else x)=aE x;rw[dL (by omega)]
theorem J8 (l:List α)(x:α)(f:α->α):(l++[x]).modify l.length f=l++[f x]:=by
 apply List.ext_getElem?;intro i;rw[List.getElem?_modify];rcases Nat.lt_trichotomy i l.length with h|h|h
 ·rw[bT h,bT h];cases l[i]? with
  |none=>rfl
  |some y=>
   show aE (if l.length=i then f y else y)=aE y;rw[dL (by omega)]
 ·subst h;rw[bP (bD _),bP (bD _),Nat.sub_self];show aE (if l.length=l.length then f x else x)=aE (f x);rw[eJ rfl]
 ·rw[dZ (by simp;omega),dZ (by simp;omega)];rfl
theorem Le (p:Nat):∀t:List N.Part,(∃o∈t,o.kind=N.iR)->∃k o,yX (t.reverse.map (·.kind)) (t.reverse.map (·.kind)).length=aE k/\t.reverse[k]?=aE o/\(N.fM t p).reverse=t.reverse.modify k (Ia p)
 |[],⟨_,h,_⟩=>by simp at h
 |o::t,hex=>by
  have sC:(o::t).reverse=t.reverse++[o]:=by simp
  have r4:((o::t).reverse.map (·.kind))=t.reverse.map (·.kind)++[o.kind]:=by simp
  have lC:yX ((o::t).reverse.map (·.kind)) ((o::t).reverse.map (·.kind)).length=if o.kind=N.iR then aE t.reverse.length else yX (t.reverse.map (·.kind)) (t.reverse.map (·.kind)).length:=by
   rw[r4,bN,List.length_singleton];show(if(t.reverse.map (·.kind)++[o.kind])[(t.reverse.map (·.kind)).length]?=aE N.iR then _ else _)=_;rw[bP (bD _),Nat.sub_self,G5 _ _ _ (bD _)];simp
  rw[lC];by_cases ho:o.kind=N.iR
  ·rw[eJ ho];refine⟨t.reverse.length,o,rfl,?_,?_⟩
   ·rw[sC,bP (bD _),Nat.sub_self];rfl
   ·have uN:N.fM (o::t) p=Ia p o::t:=by
     unfold N.fM;rw[eJ (by rw[ho];rfl)];rfl
    rw[uN,sC,J8];simp
  ·rw[dL ho];obtain⟨x,hx,hk⟩:=hex;have VE :x∈t:=by
    rcases List.mem_cons.1 hx with rfl|h
    ·exact(ho hk).elim
    ·exact h
   obtain⟨k,o',h1,h2,h3⟩:=Le p t ⟨x,VE,hk⟩;have eQ:=(bI.1 h2).1;refine⟨k,o',h1,by rw[sC,bT eQ];exact h2,?_⟩;have uN:N.fM (o::t) p=o::N.fM t p:=by
    rw[N.fM,dL (by rw[beq_iff_eq];exact ho)]
   rw[uN,List.reverse_cons,h3,sC,AE _ _ _ k eQ]
theorem Fa (p:Nat)(v' :aG):∀(ps:List N.Part) (pv:List aG) (k:Nat),pv.length=ps.length->k<ps.length->fX (ps.modify k (Ia p)) (pv.set k v')=(fX ps pv).set (k*3+2) v'
 |[],_,_,_,h=>by simp at h
 |_::_,[],_,h,_=>by simp at h
 |o::t,v::u,0,_,_=>by simp[fX,Ia]
 |o::t,v::u,k+1,h,hk=>by
  have ih:=Fa p v' t u k (by simpa using h) (by simpa using hk);unfold fX at ih ⊢;rw[List.modify_succ_cons,List.set_cons_succ,List.zip_cons_cons,List.zip_cons_cons,List.flatMap_cons,List.flatMap_cons,ih,show(k+1)*3+2=k*3+2+3 by omega,List.set_append_right _ _ (by simp)];simp
variable {p k:Nat}
theorem dM.fM {gP cP:Nat}{d:N.iY}{o:N.Part}(h:dM B w dd vD (aJ (aE ⟨gP,0,aC⟩) d.opens.length cP) pv wv d)(hb:bA w.heap.size w W)(ho:d.opens.reverse[k]?=aE o)(hv:pv[k]?=aE v)(sC:(N.fM d.opens p).reverse=d.opens.reverse.modify k (Ia p))(hg:W.grownBy w3 v.ownBlock)(fK:w3.ownsRow B 3 1 v' (o.waits.length+1) ((o.waits++[p]).map nU))(kD:v.ownBlock=v'.ownBlock\/∀j,v'.ownBlock=aE j->w.heap.size<=j)(hlw:o.waits.length+1<=60)(hp:p<d.body.length):
 dM B (w3.setCell ⟨gP,k*3+2,aC⟩ v') dd vD (aJ (aE ⟨gP,0,aC⟩) d.opens.length cP) (pv.set k v') wv ⟨d.body,N.fM d.opens p⟩/\bA B w (w3.setCell ⟨gP,k*3+2,aC⟩ v'):=by
 obtain⟨n1,n2,n3,n4⟩:=h.mP;have hBw:B<=w.heap.size:=cF h.hB (cN (cC h.blk));have hBg:B<=gP:=qC h.opens rfl;have hk:k<d.opens.reverse.length:=(bI.1 ho).1;have hwv:=h.waits k o v ho hv;have hvm:v∈pv:=cG hv;have hlen:(N.fM d.opens p).length=d.opens.length:=by
  have:=congrArg List.length sC;simpa using this
 have UJ:∀j,j<w.heap.size->v.ownBlock≠aE j->w3.heap[j]?=w.heap[j]?:=λj hj jD=>(hg.block j (eC hj hb.size) λe=>jD e.symm).trans (hb.block j hj)
 have zP:∀j,j<w.heap.size->v.ownBlock≠aE j->j≠gP->(w3.setCell ⟨gP,k*3+2,aC⟩ v').heap[j]?=w.heap[j]?:=λj hj jD hne2=>(bA.heap_setCell _ _ _ _ hne2).trans (UJ j hj jD)
 have Jx:v.ownBlock≠aE gP:=(n4 v hvm).2.2 gP rfl;have hop3:w3.ownsRow B 223 3 (aJ (aE ⟨gP,0,aC⟩) d.opens.length cP) d.opens.length (fX d.opens.reverse pv):=cV h.opens λj e=>UJ j (h.opens.lt j e).2 λe2=>(n4 v hvm).2.2 j e e2
 have hgc:∃cur,w3.heap[gP]?=aE (aU cur 223):=cJ hop3 rfl;obtain⟨cur,Nx⟩:=hgc;have hv'g:v'.ownBlock≠aE gP:=wH fK Nx (by decide);have eR:=Eb hop3 (k*3+2) (by rw[List.length_reverse] at hk;omega) v';have hlr:pv.length=d.opens.reverse.length:=h.xP;refine⟨⟨h.hB,(zP dd (cC h.blk) (n4 v hvm).1 λe=>n2 (by rw[e];rfl)).trans h.blk,cV h.body λj e=>zP j (h.body.lt j e).2 (λe2=>(n4 v hvm).2.1 j e e2) λe2=>n3 j e (by rw[e2];rfl),?_,?_,?_,?_,h.small,?_,?_⟩,?_⟩
 ·show aY.ownsRow _ _ _ _ _ (N.fM d.opens p).length (fX (N.fM d.opens p).reverse (pv.set k v'));rw[hlen,sC,Fa p v' _ _ k hlr hk];exact eR
 ·rw[List.length_set,sC,List.length_modify];exact hlr
 ·intro i x u h1 h2;rw[sC] at h1;obtain⟨y,hy,rfl⟩:=Af h1;rw[List.getElem?_set] at h2;by_cases hi:k=i
  ·subst hi;rw[eJ rfl,eJ (by rw[hlr];exact hk)] at h2;injection h2 with h2;subst h2;rw[ho] at hy;injection hy with hy;subst hy;rw[eJ rfl];show aY.ownsRow _ _ _ _ _ (o.waits++[p]).length ((o.waits++[p]).map nU);rw[bN];exact cV fK λj e=>bA.heap_setCell _ _ _ _ (show j≠gP from λe2=>hv'g (e2▸e))
  ·rw[dL hi] at h2 ⊢;have hw:=h.waits i y u hy h2;refine cV hw λj e=>zP j (hw.lt j e).2 (λe2=>hi (h.apart k i v u j hv h2 e2 e)) λe2=>(n4 u (cG h2)).2.2 gP rfl (e2▸e)
 ·intro i j x u q h1 h2 h3 h4;rw[List.getElem?_set] at h1 h2;have qU:∀(i:Nat) (x:aG),pv[i]?=aE x->x.ownBlock=aE q->q<w.heap.size:=λi x hx hq=>by
   have hi:=(bI.1 hx).1;have eQ:i<d.opens.reverse.length:=by rw[<-hlr];exact hi
   exact((h.waits i _ x (bL eQ) hx).lt q hq).2
  by_cases hi:k=i <;> by_cases hj:k=j
  ·omega
  ·rw[eJ hi] at h1;rw[dL hj] at h2;rw[eJ (by rw[hlr];exact hk)] at h1;injection h1 with h1;subst h1;rcases kD with e|e
   ·rw[<-e] at h3;have:=h.apart k j v u q hv h2 h3 h4;omega
   ·have:=e q h3;have:=qU j u h2 h4;omega
  ·rw[dL hi] at h1;rw[eJ hj] at h2;rw[eJ (by rw[hlr];exact hk)] at h2;injection h2 with h2;subst h2;rcases kD with e|e
   ·rw[<-e] at h4;have:=h.apart i k x v q h1 hv h3 h4;omega
   ·have:=e q h4;have:=qU i x h1 h3;omega
  ·rw[dL hi] at h1;rw[dL hj] at h2;exact h.apart i j x u q h1 h2 h3 h4
 ·show(N.fM d.opens p).length<=60;rw[hlen];exact h.vI
 ·intro x hx;have hx:x∈(N.fM d.opens p).reverse:=List.mem_reverse.2 hx;rw[sC] at hx;obtain⟨i,hi⟩:=List.getElem?_of_mem hx;obtain⟨y,hy,rfl⟩:=Af hi;have hly:=h.low y (List.mem_reverse.1 (cG hy));by_cases hki:k=i
  ·subst hki;rw[eJ rfl];rw[ho] at hy;injection hy with hy;subst hy;refine⟨hly.1,?_,λq hq=>?_⟩
   ·show(o.waits++[p]).length<=60;simpa using hlw
   ·rcases List.mem_append.1 hq with hq|hq
    ·exact hly.2.2 q hq
    ·rw[dE] at hq;subst hq;exact hp
  ·rw[dL hki];exact hly
 ·have h1:bA B w W:=hb.mono hBw;have h2:bA B W w3:=⟨hg.os,hg.tape,hg.output,hg.size,λj hj=>hg.block j (by have:=h1.size;omega) λe=>by have:=qC hwv e.symm;omega⟩
  exact(h1.trans h2).setCell hBg _
theorem Xq (B:Nat)(w:aY)(dd p:Nat)(vD vP:aG)(pv:List aG)(wv:List Own)(d:N.iY)(h:dM B w dd vD vP pv wv d)(Cd:∃o∈d.opens,o.kind=N.iR)(hp:p<d.body.length)(hw60:∀o∈d.opens,o.waits.length+1<=60):
 bH aQ 140 #[aK (aE ⟨dd,0,aC⟩),aI ⟨#[108,101,97,118,101]⟩,aH aF p] w λr w' =>r=aM (bC #[])/\∃sU rL,dM B w' dd vD sU rL wv ⟨d.body,N.fM d.opens p⟩/\bA B w w' :=by
 obtain⟨k,o,hk,ho,sC⟩:=Le p d.opens Cd;have hklt:k<d.opens.reverse.length:=(bI.1 ho).1;obtain⟨v,hv⟩:∃v,pv[k]?=aE v:=⟨_,bL (by rw[h.xP];exact hklt)⟩
 have hlen:(d.opens.reverse.map (·.kind)).length=d.opens.length:=by simp
 have hne0:0<d.opens.length:=by rw[List.length_reverse] at hklt;omega
 obtain⟨gP,cP,Jx,VR,_⟩:=h.opens.form hne0;subst Jx;have hpc:∀(i:Nat) (x:N.Part) (u:aG),d.opens.reverse[i]?=aE x->pv[i]?=aE u->w.cell? ⟨gP,i*3,aC⟩=aE (aI ⟨x.kind.toArray⟩)/\w.cell? ⟨gP,i*3+2,aC⟩=aE u:=by
  intro i x u hx hu;have key:∀(ps:List N.Part) (vs:List aG) (i:Nat),ps[i]?=aE x->vs[i]?=aE u->(fX ps vs)[i*3]?=aE (aI ⟨x.kind.toArray⟩)/\(fX ps vs)[i*3+2]?=aE u:=by
   intro ps
   induction ps with
   |nil=>intro vs i h1;simp at h1
   |cons a t ih=>
    intro vs i h1 h2;cases vs with
    |nil=>simp at h2
    |cons b u' =>
     cases i with
     |zero=>
      simp only[List.getElem?_cons_zero,aE.injEq] at h1 h2;subst h1 h2;exact⟨rfl,rfl⟩
     |succ i=>
      have:=ih u' i (by simpa using h1) (by simpa using h2);unfold fX at this ⊢;rw[List.zip_cons_cons,List.flatMap_cons,show(i+1)*3=i*3+3 by omega,show i*3+3+2=i*3+2+3 by omega,bP (by simp),bP (by simp)];simpa using this
  obtain⟨h1,h2⟩:=key _ _ i hx hu;have c1:=h.opens.cells (g:=gP) rfl _ _ h1;have c2:=h.opens.cells (g:=gP) rfl _ _ h2;rw[fE,dC] at c1 c2;exact⟨c1,c2⟩
 have TM:=xB w dd gP cP (d.opens.reverse.map (·.kind)) (by rw[hlen];exact h.vI) (by rw[hlen];exact aZ h.blk rfl) λj kd hj=>by
  rw[cI] at hj;obtain⟨x,hx,he⟩:=Option.map_eq_some_iff.1 hj;have Q8:=(bI.1 hx).1;obtain⟨u,hu⟩:∃u,pv[j]?=aE u:=⟨_,bL (by rw[h.xP];exact Q8)⟩
  rw[<-he];exact(hpc j x u hx hu).1
 rw[hk] at TM;have zZ:=h.waits k o v ho hv;have O6:o∈d.opens:=List.mem_reverse.1 (cG ho);have hlw:=hw60 o O6;obtain⟨aw,cw,NL,_,_⟩:=cU zZ;subst NL;have c2:=(hpc k o _ ho hv).2;obtain⟨cur,Nx⟩:=cJ h.opens (k:=gP) rfl;have f2:w.frozen? ⟨gP,k*3+2,aC⟩=aV:=bG _ Nx;have hBw:B<=w.heap.size:=cF h.hB (cN (cC h.blk));have jD:aE gP≠(aJ aw o.waits.length cw).ownBlock:=λe=>(h.mP.2.2.2 _ (cG hv)).2.2 gP rfl e.symm
 have hb:bA w.heap.size w (w.alloc (aU #[aH aF p] 3)):=(bF _ _).alloc (bD _) _;have e2:=bJ c2 (aU #[aH aF p] 3);have g2:(w.alloc (aU #[aH aF p] 3)).frozen? ⟨gP,k*3+2,aC⟩=aV:=cY (bU _ _ aC) c2 f2 (by simp);have eY:(w.alloc (aU #[aH aF p] 3)).heap[w.heap.size]?=aE (aU #[aH aF p] 3):=heap_alloc_new w _;obtain⟨i3,hi,hz,hs,jP⟩:=aa;have H:=bE h;have HL:=bE TM;have HR:=bE zZ;have HN:=bE eY;have HB:=bE hb;have Ho:=bE ho;have Hv:=bE hv;have Hr:=bE sC;clear h TM zZ eY hb hpc Nx hk ho hv sC f2;go_enter func140,ntmps140;go_wp2_with fail
 refine(aN HL).mono ?_;rintro e w2 ⟨rfl,rfl⟩;simp only[ZT];go_wp2_with (
  at_builtin
  refine wpList_append_lies _ (by rfl) (.tmp 88) (.tmp 90) 26 (by rfl) B 3 i3 (aH aF 0) 1 8 underlying26 hi hz hs jP rfl (by decide) (aJ aw o.waits.length cw) o.waits.length (o.waits.map nU) (by rfl) (by exact(aN HR).alloc _) ⟨w2.heap.size,0,aC⟩ 1 1 [aH aF p] (by rfl) rfl (aY.news_of_block (aN HN)) (λu hu=>by simp at hu;subst hu;rfl) (by decide) (by unfold maxLen;omega) (by omega) (by have:=(aN HB).size;omega) _ rfl ?_;intro g3 iG w3 jM dK qH Cc;have e5:=dK.cell e2 jD;have f5:=cY dK e2 g2 jD;have G3:=bE dK;have O3:=bE jM;have A3:=bE qH;clear dK jM qH)
 go_end0;have uN:=(aN H).fM (aN HB) (aN Ho) (aN Hv) (aN Hr) (aN G3) (v' :=aJ (aE ⟨g3,0,aC⟩) (o.waits.length+1) iG) (by rw[List.map_append];exact aN O3) ?_ hlw hp
 ·exact⟨rfl,_,_,uN.1,uN.2⟩
 ·rcases aN A3 with e|e
  ·exact .inl e
  ·refine .inr λj hj=>?_
   have:g3=j:=aE.inj hj;rw[<-this,e];simp
end
namespace N
open Go.RowKit
def jZ:List Part->Nat
 |[]=>0
 |o::t=>o.waits.length+jZ t
structure DO (d:iY):Prop where
 ol:d.opens.length<=d.body.length
 ws:jZ d.opens<=d.body.length
theorem SA:DO ⟨[],[]⟩:=⟨bD _,bD _⟩
theorem Mf:∀{t:List Part} {o:Part},o∈t->o.waits.length<=jZ t
 |[],_,h=>by simp at h
 |a::t,o,h=>by
  unfold jZ;rcases List.mem_cons.1 h with rfl|h
  ·omega
  ·have:=Mf h;omega
theorem m9 (b:List (Cell×Nat))(ps:List Nat)(g:Nat):(mX b ps g).length=b.length:=by
 have:=congrArg List.length (oO ps g b);simpa using this
theorem P3 (b:List (Cell×Nat))(p g:Nat):(qK b p g).length=b.length:=by unfold qK;rw[List.length_modify]
theorem O9 (d:iY):(shut d).body.length=d.body.length:=by
 unfold shut
 split
 ·rfl
 ·exact m9 _ _ _
theorem EA (d:iY):(shut d).opens.length<=d.opens.length/\jZ (shut d).opens<=jZ d.opens:=by
 obtain⟨b,os⟩:=d;cases os with
 |nil=>exact⟨bD _,bD _⟩
 |cons o t=>
  refine⟨?_,?_⟩
  ·show t.length<=(o::t).length;simp
  ·show jZ t<=o.waits.length+jZ t;omega
theorem Mk (p:Nat):∀t,jZ (fM t p)<=jZ t+1/\(fM t p).length=t.length
 |[]=>⟨bZ _,rfl⟩
 |o::t=>by
  obtain⟨h1,h2⟩:=Mk p t;unfold fM
  split
  ·refine⟨?_,rfl⟩;show(o.waits++[p]).length+jZ t<=o.waits.length+jZ t+1;simp;omega
  ·refine⟨?_,by simp[h2]⟩;show o.waits.length+jZ (fM t p)<=o.waits.length+jZ t+1;omega
theorem Nl (d:iY)(s:eE)(p:Nat):(settle d s p).body.length=d.body.length:=by
 unfold settle
 repeat' split
 all_goals first
  |rfl
  |exact O9 _
  |(rw[O9];exact P3 _ _ _)
variable {d:iY}
theorem Je (h:DO d)(c:Cell):DO (add d c)/\(add d c).body.length=d.body.length+1:=by
 have Jf:=h.ol;have TK:=h.ws;have hlen:(d.body++[(c,0)]).length=d.body.length+1:=by simp
 by_cases hc:c.kind=4
 ·have uN:add d c=settle ⟨d.body++[(c,0)],d.opens⟩ c.name d.body.length:=if_pos hc;rw[uN];have oN:(settle ⟨d.body++[(c,0)],d.opens⟩ c.name d.body.length).body.length=d.body.length+1:=(Nl _ _ _).trans hlen;refine⟨?_,oN⟩;have key:(settle ⟨d.body++[(c,0)],d.opens⟩ c.name d.body.length).opens.length<=d.opens.length+1/\jZ (settle ⟨d.body++[(c,0)],d.opens⟩ c.name d.body.length).opens<=jZ d.opens+1:=by
   have hs:=EA ⟨d.body++[(c,0)],d.opens⟩;unfold settle
   split
   ·exact⟨by simp,by show 1+jZ d.opens<=_;omega⟩
   ·split
    ·exact⟨by simp,by show 0+jZ d.opens<=_;omega⟩
    ·split
     ·refine⟨?_,?_⟩
      ·show(shut _).opens.length+1<=_;have:=hs.1;simp only at this;omega
      ·show 1+jZ (shut _).opens<=_;have:=hs.2;simp only at this;omega
     ·split
      ·cases hd:d.opens with
       |nil=>exact⟨by simp,by show 0<=_;omega⟩
       |cons o t=>exact⟨by simp,by show 1+jZ t<=o.waits.length+jZ t+1;omega⟩
      ·split
       ·have:=Mk d.body.length d.opens;exact⟨by show(fM d.opens d.body.length).length<=_;omega,this.1⟩
       ·split
        ·cases hd:d.opens with
         |nil=>exact⟨by simp,by show 0<=_;omega⟩
         |cons o t=>
          refine⟨?_,?_⟩
          ·show t.length<=_;simp;omega
          ·show jZ t<=o.waits.length+jZ t+1;omega
        ·split
         ·refine⟨?_,?_⟩
          ·have:=hs.1;simp only at this;omega
          ·have:=hs.2;simp only at this;omega
         ·exact⟨by show d.opens.length<=_;omega,by show jZ d.opens<=_;omega⟩
  exact⟨by rw[oN];omega,by rw[oN];omega⟩
 ·have uN:add d c=⟨d.body++[(c,0)],d.opens⟩:=if_neg hc;rw[uN];exact⟨⟨by show d.opens.length<=(d.body++[(c,0)]).length;omega,by show jZ d.opens<=(d.body++[(c,0)]).length;omega⟩,hlen⟩
end N
section
attribute [local go_sem ↓] Go.wp_at_zero Go.wp_at_succ
theorem U1 (B:Nat)(w:aY)(dd:Nat)(vD vP:aG)(pv:List aG)(wv:List Own)(d:N.iY)(hf:N.Jo d)(Mi:N.DO d)(s:List UInt8)(o1:List (List UInt8))(hs:N.stands (N.kinds d) s=aE o1)(ht:s≠[39])(hlen:d.body.length<60)(h:dM B w dd vD vP pv wv ⟨d.body++[(⟨4,0,s⟩,0)],d.opens⟩):
 bH aQ 140 #[aK (aE ⟨dd,0,aC⟩),aI ⟨s.toArray⟩,aH aF d.body.length] w λr w' =>r=aM (bC #[])/\∃sU rL,dM B w' dd vD sU rL wv (N.settle ⟨d.body++[(⟨4,0,s⟩,0)],d.opens⟩ s d.body.length)/\bA B w w' :=by
 have Jf:=Mi.ol;have M4:∀o t,d.opens=o::t->∀p∈o.waits,∃c g,(d.body++[((⟨4,0,s⟩:N.Cell),0)])[p]?=aE (c,g)/\c.kind=4:=λo t he p hp=>by
  have hw:=hf.Eu.wt;rw[he] at hw;obtain⟨c,hc,hk,_⟩:=hw.1 p hp;unfold N.cells at hc;rw[cI] at hc;obtain⟨x,hx,Kt⟩:=Option.map_eq_some_iff.1 hc;refine⟨c,x.2,?_,hk⟩;rw[bT (bI.1 hx).1,hx,<-Kt]
 have GO:(d.body++[((⟨4,0,s⟩:N.Cell),0)])[d.body.length]?=aE (⟨4,0,s⟩,0):=by rw[bP (bD _),Nat.sub_self];rfl
 have nV:d.body.length<(d.body++[((⟨4,0,s⟩:N.Cell),0)]).length:=by simp
 unfold N.stands at hs;by_cases h1:(s==N.mM||s==N.dT||s==N.iR)=aX
 ·simp only[dY,beq_iff_eq] at h1;rcases h1 with (rfl|rfl)|rfl
  ·exact LA B w dd d.body.length vD vP pv wv _ h (by omega) nV (by show d.opens.length+1<=60;omega)
  ·exact Zs B w dd d.body.length vD vP pv wv _ h (by omega) (by show d.opens.length+1<=60;omega)
  ·exact JL B w dd d.body.length vD vP pv wv _ h (by omega) nV (by show d.opens.length+1<=60;omega)
 rw[dL h1] at hs;by_cases h2:(s==N.fA)=aX
 ·rw[eJ h2] at hs;rw[beq_iff_eq] at h2;subst h2;obtain⟨o,t,he,mO,rfl⟩:=N.jI hs;have hw:=M4 o t he;rw[he] at h ⊢;exact B1 B w dd d.body.length vD vP pv wv _ o t h hw (by omega) nV
 rw[dL h2] at hs;by_cases h3:(s==N.iQ)=aX
 ·rw[eJ h3] at hs;rw[beq_iff_eq] at h3;subst h3;obtain⟨o,t,he,mO,rfl⟩:=N.jI hs;have hw:=M4 o t he;rw[he] at h ⊢;exact F3 B w dd d.body.length vD vP pv wv _ o t h hw
 rw[dL h3] at hs;by_cases h4:(s==N.jQ||s==N.jW)=aX
 ·rw[eJ h4] at hs;simp only[dY,beq_iff_eq] at h4;obtain⟨o,t,he,mO,rfl⟩:=N.jI hs;have hw:=M4 o t he;rw[he] at h ⊢;rcases h4 with rfl|rfl
  ·exact Yt B w dd d.body.length vD vP pv wv _ o t _ 0 h hw GO rfl
  ·exact Yq B w dd d.body.length vD vP pv wv _ o t _ 0 h hw GO rfl
 rw[dL h4] at hs;by_cases h5:(s==N.eN)=aX
 ·rw[eJ h5] at hs;rw[beq_iff_eq] at h5;subst h5;obtain⟨o,t,he,mO,rfl⟩:=N.jI hs;rw[he] at h ⊢;exact c6 B w dd d.body.length vD vP pv wv _ o t h nV
 rw[dL h5] at hs;by_cases h6:(s==N.gB)=aX
 ·rw[eJ h6] at hs;rw[beq_iff_eq] at h6;subst h6;obtain⟨o,t,he,mO,rfl⟩:=N.jI hs;have hw:=M4 o t he;rw[he] at h ⊢;exact Uy B w dd d.body.length vD vP pv wv _ o t _ 0 h hw GO rfl
 rw[dL h6] at hs;by_cases h7:(s==N.eK)=aX
 ·rw[eJ h7] at hs;rw[beq_iff_eq] at h7;subst h7;obtain⟨o,t,he,mO,rfl⟩:=N.jI hs;have hw:=M4 o t he;rw[he] at h ⊢;exact E3 B w dd d.body.length vD vP pv wv _ o t _ 0 h hw GO rfl
 rw[dL h7] at hs;have stay:∀w',w' =w->N.settle ⟨d.body++[(⟨4,0,s⟩,0)],d.opens⟩ s d.body.length=⟨d.body++[(⟨4,0,s⟩,0)],d.opens⟩->∃sU rL,dM B w' dd vD sU rL wv (N.settle ⟨d.body++[(⟨4,0,s⟩,0)],d.opens⟩ s d.body.length)/\bA B w w' :=by
  rintro w' rfl he;rw[he];exact⟨vP,pv,h,bF _ _⟩
 by_cases h8:(s==N.wI||s==N.fD)=aX
 ·rw[eJ h8] at hs;by_cases mO:(N.kinds d).any (λb=>b==N.iR)=aX
  ·have Cd:∃o∈d.opens,o.kind=N.iR:=by
    rw[List.any_eq_true] at mO;obtain⟨x,hx,he⟩:=mO;unfold N.kinds at hx;rw[List.mem_map] at hx;obtain⟨o,ho,hk⟩:=hx;exact⟨o,List.mem_reverse.1 ho,by rw[hk];simpa using he⟩
   simp only[dY,beq_iff_eq] at h8;rcases h8 with rfl|rfl
   ·exact(OP w dd d.body.length).mono λr w' hh=>⟨hh.1,stay w' hh.2 rfl⟩
   ·exact Xq B w dd d.body.length vD vP pv wv _ h Cd nV λo ho=>by
     have h1:o.waits.length<=N.jZ d.opens:=N.Mf ho;have:=Mi.ws;omega
  ·rw[dL mO] at hs;cases hs
 rw[dL h8] at hs;by_cases h9:(s==N.kX||s==N.sW||s==[39])=aX
 ·simp only[dY,beq_iff_eq] at h9;rcases h9 with (rfl|rfl)|rfl
  ·exact(Oq w dd d.body.length).mono λr w' hh=>⟨hh.1,stay w' hh.2 rfl⟩
  ·exact(K2 w dd d.body.length).mono λr w' hh=>⟨hh.1,stay w' hh.2 rfl⟩
  ·exact(ht rfl).elim
 ·rw[dL h9] at hs;cases hs
variable {B dd:Nat}{w W w3:aY}{vD vP v' :aG}{pv:List aG}{wv:List Own}
theorem dM.snoc {d:N.iY}(h:dM B w dd vD vP pv wv d)(hb:bA w.heap.size w W)(x:N.Cell×Nat)(hg:W.grownBy w3 vD.ownBlock)(ho:w3.ownsRow B 107 1 v' (d.body.length+1) (d.body.map (fB wv)++[fB wv x]))(hlen:d.body.length<60):
 dM B (w3.setCell ⟨dd,0,aC⟩ v') dd v' vP pv wv ⟨d.body++[x],d.opens⟩/\bA B w (w3.setCell ⟨dd,0,aC⟩ v'):=by
 obtain⟨n1,n2,n3,n4⟩:=h.mP;have ES:=cC h.blk;have hBw:B<=w.heap.size:=cF h.hB (cN ES);have zP:∀k,k<w.heap.size->vD.ownBlock≠aE k->k≠dd->(w3.setCell ⟨dd,0,aC⟩ v').heap[k]?=w.heap[k]?:=λk hk jD hd=>
  (bA.heap_setCell _ _ _ _ hd).trans ((hg.block k (eC hk hb.size) λe=>jD e.symm).trans (hb.block k hk))
 have RY:w3.heap[dd]?=aE (aU #[vD,vP] 201):=(hg.block dd (eC ES hb.size) λe=>n1 e.symm).trans ((hb.block dd ES).trans h.blk);have SY:v'.ownBlock≠aE dd:=wH ho RY (by decide);have oN:(d.body++[x]).length=d.body.length+1:=by simp
 refine⟨⟨h.hB,bV RY 0 _,?_,?_,h.xP,?_,h.apart,by show(d.body++[x]).length<=60;omega,h.vI,?_⟩,?_⟩
 ·show aY.ownsRow _ _ _ _ _ (d.body++[x]).length ((d.body++[x]).map (fB wv));rw[oN,List.map_append];exact cV ho λk e=>bA.heap_setCell _ _ _ _ (show k≠dd from λe2=>SY (e2▸e))
 ·exact cV h.opens λk e=>zP k (h.opens.lt k e).2 (λe2=>n3 k e2 e) λe2=>n2 (e2▸e)
 ·intro i o u h1 h2;have hw:=h.waits i o u h1 h2;exact cV hw λk e=>zP k (hw.lt k e).2 (λe3=>(n4 u (cG h2)).2.1 k e3 e) λe2=>(n4 u (cG h2)).1 (e2▸e)
 ·intro o hoo;have:=h.low o hoo;refine⟨this.1,this.2.1,λp hp=>?_⟩;show p<(d.body++[x]).length;have:=this.2.2 p hp;omega
 ·have h1:bA B w W:=hb.mono hBw;have h2:bA B W w3:=⟨hg.os,hg.tape,hg.output,hg.size,λk hk=>hg.block k (by have:=h1.size;omega) λe=>by have:=qC h.body e.symm;omega⟩
  exact(h1.trans h2).setCell h.hB _
theorem J6:∃i,(aQ).info? 107=aE i/\i.zero=aE .nilIface/\i.size=1/\i.bytes=16:=nE (by kernel_rfl)
theorem Pf (w:aY)(dd cD:Nat)(a:Option Addr)(V:aG)(e0:w.cell? ⟨dd,0,aC⟩=aE (aJ a 60 cD)):
 bH aQ 135 #[aK (aE ⟨dd,0,aC⟩),V] w λr w' =>r=aM (aH aF 5)/\w' =w:=by
 go_enter func135,ntmps135;go_wp2;go_ret;exact⟨rfl,rfl⟩
theorem Vy (B:Nat)(w:aY)(dd:Nat)(vD vP:aG)(pv:List aG)(wv:List Own)(d:N.iY)(x:N.Cell×Nat)(T:TypeId)(v:aG)(hV:fB wv x=bO T v)(r5:∀W,(bY (bO T v) 107 134 aX).run aQ W=.ok (bC #[aI ⟨#[]⟩,bB aV]) W)(h:dM B w dd vD vP pv wv d)(hlen:d.body.length<60):
 bH aQ 135 #[aK (aE ⟨dd,0,aC⟩),bO T v] w λr w' =>r=aM (aH aF 0)/\∃Gz,dM B w' dd Gz vP pv wv ⟨d.body++[x],d.opens⟩/\bA B w w' :=by
 obtain⟨i3,hi,hz,hs,jP⟩:=J6;obtain⟨aD,cD,CZ,_,_⟩:=cU h.body;subst CZ;have gK:=cq 0 h.blk rfl;have Nm:=bG 0 h.blk;have jD:aE dd≠(aJ aD d.body.length cD).ownBlock:=λe=>h.mP.1 e.symm
 have hBw:B<=w.heap.size:=cF h.hB (cN (cC h.blk));have tB:bA w.heap.size w (w.alloc (aU #[bO T v] 107)):=(bF _ _).alloc (bD _) _;have eY:(w.alloc (aU #[bO T v] 107)).heap[w.heap.size]?=aE (aU #[bO T v] 107):=heap_alloc_new w _;have fK:(w.alloc (aU #[bO T v] 107)).ownsRow B 107 1 (aJ aD d.body.length cD) d.body.length (d.body.map (fB wv)):=h.body.alloc _;have e1:=bJ gK (aU #[bO T v] 107);have f1:(w.alloc (aU #[bO T v] 107)).frozen? ⟨dd,0,aC⟩=aV:=cY (bU _ _ aC) gK Nm (by simp);have k1:((d.body.length:Int)==60)=aV:=by rw[beq_eq_false_iff_ne];omega
 have H:=bE h;have HO:=bE fK;have HN:=bE eY;have HB:=bE tB;have HV:=bE hV;clear h fK eY tB Nm hV;go_enter func135,ntmps135;go_wp2_with (
  at_builtin
  refine wpList_append_lies _ (by rfl) (.tmp 44) (.tmp 46) 178 (by rfl) B 107 i3 .nilIface 1 16 underlying178 hi hz hs jP rfl (by decide) (aJ aD d.body.length cD) d.body.length (d.body.map (fB wv)) (by rfl) (by exact aN HO) ⟨w.heap.size,0,aC⟩ 1 1 [bO T v] (by rfl) rfl (aY.news_of_block (aN HN)) (λu hu=>by simp at hu;subst hu;rfl) (by decide) (by unfold maxLen;omega) (by omega) (by have:=(aN HB).size;omega) _ rfl ?_;intro g3 iG w3 jM dK qH Cc;have e5:=dK.cell e1 jD;have f5:=cY dK e1 f1 jD;have G3:=bE dK;have O3:=bE jM;clear dK jM qH)
 go_ret;have r6:=(aN H).snoc (aN HB) x (aN G3) (by rw[aN HV];exact aN O3) hlen;exact⟨rfl,_,r6.1,r6.2⟩
theorem Hx (v:aG)(W:aY):(bY (bO 134 v) 107 134 aX).run aQ W=.ok (bC #[v,bB aX]) W:=by kernel_rfl
theorem Ua (B:Nat)(w:aY)(dd:Nat)(vD vP:aG)(pv:List aG)(wv:List Own)(d:N.iY)(s:List UInt8)(Q:aY->Prop)(h:dM B w dd vD vP pv wv d)(hlen:d.body.length<60)(HS:Hid (∀W Gz,dM B W dd Gz vP pv wv ⟨d.body++[(⟨4,0,s⟩,0)],d.opens⟩->bA B w W->bH aQ 140 #[aK (aE ⟨dd,0,aC⟩),aI ⟨s.toArray⟩,aH aF d.body.length] W λr w' =>r=aM (bC #[])/\Q w')):
 bH aQ 135 #[aK (aE ⟨dd,0,aC⟩),bO 134 (aI ⟨s.toArray⟩)] w λr w' =>r=aM (aH aF 0)/\Q w' :=by
 have r5:=Hx (aI ⟨s.toArray⟩);obtain⟨i3,hi,hz,hs,jP⟩:=J6;obtain⟨aD,cD,CZ,_,_⟩:=cU h.body;subst CZ;have gK:=cq 0 h.blk rfl;have Nm:=bG 0 h.blk;have jD:aE dd≠(aJ aD d.body.length cD).ownBlock:=λe=>h.mP.1 e.symm
 have hBw:B<=w.heap.size:=cF h.hB (cN (cC h.blk));have tB:bA w.heap.size w (w.alloc (aU #[bO 196 (bM #[aI ⟨s.toArray⟩,aH aF 0])] 107)):=(bF _ _).alloc (bD _) _;have eY:(w.alloc (aU #[bO 196 (bM #[aI ⟨s.toArray⟩,aH aF 0])] 107)).heap[w.heap.size]?=aE (aU #[bO 196 (bM #[aI ⟨s.toArray⟩,aH aF 0])] 107):=heap_alloc_new w _;have fK:(w.alloc (aU #[bO 196 (bM #[aI ⟨s.toArray⟩,aH aF 0])] 107)).ownsRow B 107 1 (aJ aD d.body.length cD) d.body.length (d.body.map (fB wv)):=h.body.alloc _;have e1:=bJ gK (aU #[bO 196 (bM #[aI ⟨s.toArray⟩,aH aF 0])] 107);have f1:(w.alloc (aU #[bO 196 (bM #[aI ⟨s.toArray⟩,aH aF 0])] 107)).frozen? ⟨dd,0,aC⟩=aV:=cY (bU _ _ aC) gK Nm (by simp);have k1:((d.body.length:Int)==60)=aV:=by rw[beq_eq_false_iff_ne];omega
 have k2:aF.wrap (((d.body.length+1:Nat):Int)-1)=(d.body.length:Int):=wj;have H:=bE h;have HO:=bE fK;have HN:=bE eY;have HB:=bE tB;clear h fK eY tB Nm;go_enter func135,ntmps135;go_wp2_with (
  at_builtin
  refine wpList_append_lies _ (by rfl) (.tmp 23) (.tmp 27) 178 (by rfl) B 107 i3 .nilIface 1 16 underlying178 hi hz hs jP rfl (by decide) (aJ aD d.body.length cD) d.body.length (d.body.map (fB wv)) (by rfl) (by exact aN HO) ⟨w.heap.size,0,aC⟩ 1 1 [bO 196 (bM #[aI ⟨s.toArray⟩,aH aF 0])] (by rfl) rfl (aY.news_of_block (aN HN)) (λu hu=>by simp at hu;subst hu;rfl) (by decide) (by unfold maxLen;omega) (by omega) (by have:=(aN HB).size;omega) _ rfl ?_;intro g3 iG w3 jM dK qH Cc;have e5:=dK.cell e1 jD;have f5:=cY dK e1 f1 jD;have G3:=bE dK;have O3:=bE jM;clear dK jM qH)
 have r6:=(aN H).snoc (aN HB) (⟨4,0,s⟩,0) (aN G3) (aN O3) hlen;refine(aN HS _ _ r6.1 r6.2).mono ?_;rintro e w4 ⟨rfl,hQ⟩;have HQ:=bE hQ;clear hQ r6;go_wp2;go_ret;exact⟨rfl,aN HQ⟩
theorem Yg (B:Nat)(w:aY)(dd:Nat)(vD vP:aG)(pv:List aG)(wv:List Own)(d:N.iY)(hf:N.Jo d)(Mi:N.DO d)(s:List UInt8)(o1:List (List UInt8))(hs:N.stands (N.kinds d) s=aE o1)(ht:s≠[39])(hlen:d.body.length<60)(h:dM B w dd vD vP pv wv d):
 bH aQ 135 #[aK (aE ⟨dd,0,aC⟩),bO 134 (aI ⟨s.toArray⟩)] w λr w' =>r=aM (aH aF 0)/\∃Gz sU rL,dM B w' dd Gz sU rL wv (N.add d ⟨4,0,s⟩)/\bA B w w' :=by
 refine Ua B w dd vD vP pv wv d s _ h hlen (bE λW Gz hW hb=>?_);refine(U1 B W dd Gz vP pv wv d hf Mi s o1 hs ht hlen hW).mono ?_;rintro r w' ⟨rfl,sU,rL,hd,Ew⟩;have uN:N.add d ⟨4,0,s⟩=N.settle ⟨d.body++[(⟨4,0,s⟩,0)],d.opens⟩ s d.body.length:=eJ rfl;rw[uN];exact⟨rfl,Gz,sU,rL,hd,hb.trans Ew⟩
def kK (d:N.iY):List UInt8:=match d.opens with|[]=>[]|o::_=>o.kind
theorem Vr (B:Nat)(w:aY)(dd:Nat)(vD vP:aG)(pv:List aG)(wv:List Own)(d:N.iY)(h:dM B w dd vD vP pv wv d):
 bH aQ 138 #[aK (aE ⟨dd,0,aC⟩)] w λr w' =>r=aM (aI ⟨(kK d).toArray⟩)/\bA w.heap.size w w' :=by
 obtain⟨bd,os⟩:=d;cases os with
 |nil=>
  obtain⟨aP,cP,Jx⟩:∃a c,vP=aJ a 0 c:=by
   rcases h.opens.2 with ⟨h1,h2⟩|⟨g,cap,cur,h1,_⟩
   ·exact⟨aC,0,h1⟩
   ·exact⟨_,_,h1⟩
  subst Jx;exact(BR w dd cP aP (aZ h.blk rfl)).mono λr w' hh=>⟨hh.1,by rw[hh.2];exact bF _ _⟩
 |cons o t=>
  obtain⟨rL,v,gP,cP,rfl,nV,rfl,bh,VR,c0,_,_,_⟩:=h.last;have sD:=h.vI;simp only[cX] at sD;exact(V4 w dd gP (t.length+1) t.length cP ⟨o.kind.toArray⟩ rfl sD (aZ h.blk rfl) c0).mono λr w' hh=>⟨hh.1,by rw[hh.2];exact(bF _ _).drew⟩
theorem QR:∀(t:List N.Part),(yX (t.reverse.map (·.kind)) (t.reverse.map (·.kind)).length).isSome=(t.reverse.map (·.kind)).any λb=>b==N.iR:=by
 intro t;have key:∀(ks:List (List UInt8)) n,n<=ks.length->(yX ks n).isSome=(ks.take n).any λb=>b==N.iR:=by
  intro ks n
  induction n with
  |zero=>intro _;rfl
  |succ n ih=>
   intro hn;have ih:=ih (by omega);have lC:yX ks (n+1)=if ks[n]?=aE N.iR then aE n else yX ks n:=rfl;rw[dF (by omega),List.any_append,<-ih,lC,bL (by omega)];by_cases hx:ks[n]=N.iR
   ·rw[eJ (by rw[hx])];simp[hx]
   ·have hb:(ks[n]==N.iR)=aV:=by rw[beq_eq_false_iff_ne];exact hx
    rw[dL (by simpa using hx),List.any_cons,List.any_nil,hb,Bool.or_false,Bool.or_false]
 have:=key (t.reverse.map (·.kind)) _ (bD _);rw[List.take_length] at this;exact this
theorem Ts (B:Nat)(w:aY)(dd:Nat)(vD vP:aG)(pv:List aG)(wv:List Own)(d:N.iY)(h:dM B w dd vD vP pv wv d):
 bH aQ 139 #[aK (aE ⟨dd,0,aC⟩)] w λr w' =>(if(N.kinds d).any (λb=>b==N.iR)=aX then ∃a,r=aM (aK (aE a)) else r=aM (aK aC))/\w' =w:=by
 have hk:N.kinds d=d.opens.reverse.map (·.kind):=rfl;have hda:=QR d.opens;rw[<-hk] at hda;have hlen:(N.kinds d).length=d.opens.length:=by rw[hk];simp
 by_cases h0:d.opens.length=0
 ·have qJ:d.opens=[]:=dU.1 h0;have Mp:N.kinds d=[]:=by rw[hk,qJ];rfl
  rw[Mp];rcases h.opens.2 with ⟨h1,h2⟩|⟨g,cap,cur,h1,_⟩
  ·subst h1;exact(Qd w dd (aZ h.blk rfl)).mono λr w' hh=>⟨hh.1,hh.2⟩
  ·subst h1;refine(xB w dd g cap [] (by simp) (by have:=aZ (j:=1) h.blk rfl;rw[this,h0];rfl) (λj k hj=>by simp at hj)).mono λr w' hh=>⟨hh.1,hh.2⟩
 ·obtain⟨gP,cP,Jx,VR,_⟩:=h.opens.form (by omega);subst Jx;have Gn:∀j k,(N.kinds d)[j]?=aE k->w.cell? ⟨gP,j*3,aC⟩=aE (aI ⟨k.toArray⟩):=by
   intro j kd hj;rw[hk,cI] at hj;obtain⟨x,hx,he⟩:=Option.map_eq_some_iff.1 hj;have Q8:=(bI.1 hx).1;obtain⟨u,hu⟩:∃u,pv[j]?=aE u:=⟨_,bL (by rw[h.xP];exact Q8)⟩
   have key:∀(ps:List N.Part) (vs:List aG) (i:Nat),ps[i]?=aE x->vs[i]?=aE u->(fX ps vs)[i*3]?=aE (aI ⟨x.kind.toArray⟩):=by
    intro ps
    induction ps with
    |nil=>intro vs i h1;simp at h1
    |cons a t ih=>
     intro vs i h1 h2;cases vs with
     |nil=>simp at h2
     |cons b u' =>
      cases i with
      |zero=>
       simp only[List.getElem?_cons_zero,aE.injEq] at h1;subst h1;rfl
      |succ i=>
       have:=ih u' i (by simpa using h1) (by simpa using h2);unfold fX at this ⊢;rw[List.zip_cons_cons,List.flatMap_cons,show(i+1)*3=i*3+3 by omega,bP (by simp)];simpa using this
   have c1:=h.opens.cells (g:=gP) rfl _ _ (key _ _ j hx hu);rw[fE,dC] at c1;rw[<-he];exact c1
  refine(xB w dd gP cP (N.kinds d) (by rw[hlen];exact h.vI) (by rw[hlen];exact aZ h.blk rfl) Gn).mono λr w' hh=>⟨?_,hh.2⟩
  have hda2:(yX (N.kinds d) (N.kinds d).length).isSome=(N.kinds d).any λb=>b==N.iR:=hda
  rw[<-hda2,hh.1];cases yX (N.kinds d) (N.kinds d).length with
  |none=>rfl
  |some k=>exact⟨_,rfl⟩
theorem X7 (w:aY)(dd:Nat):bH aQ 133 #[aK (aE ⟨dd,0,aC⟩),aI ⟨#[58]⟩] w λr w' =>r=aM (bB aV)/\w' =w:=by
 go_enter func133,ntmps133;go_wp2;go_ret;exact⟨rfl,rfl⟩
theorem LY (w:aY)(dd:Nat):bH aQ 133 #[aK (aE ⟨dd,0,aC⟩),aI ⟨#[59]⟩] w λr w' =>r=aM (bB aV)/\w' =w:=by
 go_enter func133,ntmps133;go_wp2;go_ret;exact⟨rfl,rfl⟩
theorem Um (w:aY)(dd:Nat):bH aQ 133 #[aK (aE ⟨dd,0,aC⟩),aI ⟨#[118,97,114,105,97,98,108,101]⟩] w λr w' =>r=aM (bB aV)/\w' =w:=by
 go_enter func133,ntmps133;go_wp2;go_ret;exact⟨rfl,rfl⟩
theorem Us (w:aY)(dd:Nat):bH aQ 133 #[aK (aE ⟨dd,0,aC⟩),aI ⟨#[99,111,110,115,116,97,110,116]⟩] w λr w' =>r=aM (bB aV)/\w' =w:=by
 go_enter func133,ntmps133;go_wp2;go_ret;exact⟨rfl,rfl⟩
theorem D4 (w:aY)(dd:Nat):bH aQ 133 #[aK (aE ⟨dd,0,aC⟩),aI ⟨#[109,97,114,107,101,114]⟩] w λr w' =>r=aM (bB aV)/\w' =w:=by
 go_enter func133,ntmps133;go_wp2;go_ret;exact⟨rfl,rfl⟩
theorem C7 (w:aY)(dd:Nat):bH aQ 133 #[aK (aE ⟨dd,0,aC⟩),aI ⟨#[102,111,114,103,101,116]⟩] w λr w' =>r=aM (bB aV)/\w' =w:=by
 go_enter func133,ntmps133;go_wp2;go_ret;exact⟨rfl,rfl⟩
theorem KU (w:aY)(dd:Nat):bH aQ 133 #[aK (aE ⟨dd,0,aC⟩),aI ⟨#[39]⟩] w λr w' =>r=aM (bB aX)/\w' =w:=by
 go_enter func133,ntmps133;go_wp2;go_ret;exact⟨rfl,rfl⟩
theorem Xr (w:aY)(dd:Nat):bH aQ 133 #[aK (aE ⟨dd,0,aC⟩),aI ⟨#[114,101,99,117,114,115,101]⟩] w λr w' =>r=aM (bB aX)/\w' =w:=by
 go_enter func133,ntmps133;go_wp2;go_ret;exact⟨rfl,rfl⟩
theorem XZ (w:aY)(dd:Nat):bH aQ 133 #[aK (aE ⟨dd,0,aC⟩),aI ⟨#[105,102]⟩] w λr w' =>r=aM (bB aX)/\w' =w:=by
 go_enter func133,ntmps133;go_wp2;go_ret;exact⟨rfl,rfl⟩
theorem T0 (w:aY)(dd:Nat):bH aQ 133 #[aK (aE ⟨dd,0,aC⟩),aI ⟨#[98,101,103,105,110]⟩] w λr w' =>r=aM (bB aX)/\w' =w:=by
 go_enter func133,ntmps133;go_wp2;go_ret;exact⟨rfl,rfl⟩
theorem VS (w:aY)(dd:Nat):bH aQ 133 #[aK (aE ⟨dd,0,aC⟩),aI ⟨#[100,111]⟩] w λr w' =>r=aM (bB aX)/\w' =w:=by
 go_enter func133,ntmps133;go_wp2;go_ret;exact⟨rfl,rfl⟩
theorem KQ (w:aY)(dd:Nat):bH aQ 133 #[aK (aE ⟨dd,0,aC⟩),aI ⟨#[101,120,105,116]⟩] w λr w' =>r=aM (bB aX)/\w' =w:=by
 go_enter func133,ntmps133;go_wp2;go_ret;exact⟨rfl,rfl⟩
theorem KT (w:aY)(dd:Nat)(kd:List UInt8)(P:aY->Prop)(H:Hid (bH aQ 138 #[aK (aE ⟨dd,0,aC⟩)] w λr w' =>r=aM (aI ⟨kd.toArray⟩)/\P w')):bH aQ 133 #[aK (aE ⟨dd,0,aC⟩),aI ⟨#[101,108,115,101]⟩] w λr w' =>r=aM (bB (kd==[105,102]))/\P w' :=by
 cases hq:(kd==[105,102]);all_goals
  go_enter func133,ntmps133;go_wp2_with fail
  refine(aN H).mono ?_;rintro e w' ⟨rfl,hP⟩;have HP:=bE hP;clear hP;go_wp2;go_ret;exact⟨rfl,aN HP⟩
theorem Y2 (w:aY)(dd:Nat)(kd:List UInt8)(P:aY->Prop)(H:Hid (bH aQ 138 #[aK (aE ⟨dd,0,aC⟩)] w λr w' =>r=aM (aI ⟨kd.toArray⟩)/\P w')):bH aQ 133 #[aK (aE ⟨dd,0,aC⟩),aI ⟨#[117,110,116,105,108]⟩] w λr w' =>r=aM (bB (kd==[98,101,103,105,110]))/\P w' :=by
 cases hq:(kd==[98,101,103,105,110]);all_goals
  go_enter func133,ntmps133;go_wp2_with fail
  refine(aN H).mono ?_;rintro e w' ⟨rfl,hP⟩;have HP:=bE hP;clear hP;go_wp2;go_ret;exact⟨rfl,aN HP⟩
theorem U4 (w:aY)(dd:Nat)(kd:List UInt8)(P:aY->Prop)(H:Hid (bH aQ 138 #[aK (aE ⟨dd,0,aC⟩)] w λr w' =>r=aM (aI ⟨kd.toArray⟩)/\P w')):bH aQ 133 #[aK (aE ⟨dd,0,aC⟩),aI ⟨#[97,103,97,105,110]⟩] w λr w' =>r=aM (bB (kd==[98,101,103,105,110]))/\P w' :=by
 cases hq:(kd==[98,101,103,105,110]);all_goals
  go_enter func133,ntmps133;go_wp2_with fail
  refine(aN H).mono ?_;rintro e w' ⟨rfl,hP⟩;have HP:=bE hP;clear hP;go_wp2;go_ret;exact⟨rfl,aN HP⟩
theorem U0 (w:aY)(dd:Nat)(kd:List UInt8)(P:aY->Prop)(H:Hid (bH aQ 138 #[aK (aE ⟨dd,0,aC⟩)] w λr w' =>r=aM (aI ⟨kd.toArray⟩)/\P w')):bH aQ 133 #[aK (aE ⟨dd,0,aC⟩),aI ⟨#[119,104,105,108,101]⟩] w λr w' =>r=aM (bB (kd==[98,101,103,105,110]))/\P w' :=by
 cases hq:(kd==[98,101,103,105,110]);all_goals
  go_enter func133,ntmps133;go_wp2_with fail
  refine(aN H).mono ?_;rintro e w' ⟨rfl,hP⟩;have HP:=bE hP;clear hP;go_wp2;go_ret;exact⟨rfl,aN HP⟩
theorem H9 (w:aY)(dd:Nat)(kd:List UInt8)(P:aY->Prop)(H:Hid (bH aQ 138 #[aK (aE ⟨dd,0,aC⟩)] w λr w' =>r=aM (aI ⟨kd.toArray⟩)/\P w')):bH aQ 133 #[aK (aE ⟨dd,0,aC⟩),aI ⟨#[114,101,112,101,97,116]⟩] w λr w' =>r=aM (bB (kd==[119,104,105,108,101]))/\P w' :=by
 cases hq:(kd==[119,104,105,108,101]);all_goals
  go_enter func133,ntmps133;go_wp2_with fail
  refine(aN H).mono ?_;rintro e w' ⟨rfl,hP⟩;have HP:=bE hP;clear hP;go_wp2;go_ret;exact⟨rfl,aN HP⟩
theorem KN (w:aY)(dd:Nat)(kd:List UInt8)(P:aY->Prop)(H:Hid (bH aQ 138 #[aK (aE ⟨dd,0,aC⟩)] w λr w' =>r=aM (aI ⟨kd.toArray⟩)/\P w')):bH aQ 133 #[aK (aE ⟨dd,0,aC⟩),aI ⟨#[108,111,111,112]⟩] w λr w' =>r=aM (bB (kd==[100,111]))/\P w' :=by
 cases hq:(kd==[100,111]);all_goals
  go_enter func133,ntmps133;go_wp2_with fail
  refine(aN H).mono ?_;rintro e w' ⟨rfl,hP⟩;have HP:=bE hP;clear hP;go_wp2;go_ret;exact⟨rfl,aN HP⟩
theorem JX (w:aY)(dd:Nat)(kd:List UInt8)(H:Hid (∀W,bA w.heap.size w W->bH aQ 138 #[aK (aE ⟨dd,0,aC⟩)] W λr w' =>r=aM (aI ⟨kd.toArray⟩)/\bA w.heap.size w w')):bH aQ 133 #[aK (aE ⟨dd,0,aC⟩),aI ⟨#[116,104,101,110]⟩] w λr w' =>r=aM (bB (kd==[105,102]||kd==[101,108,115,101]))/\bA w.heap.size w w' :=by
 cases hq:(kd==[105,102])
 ·cases DU:(kd==[101,108,115,101]);all_goals
   go_enter func133,ntmps133;go_wp2_with fail
   refine(aN H w (bF _ _)).mono ?_;rintro e w' ⟨rfl,hP⟩;have HP:=bE hP;clear hP;go_wp2_with fail
   refine(aN H w' (aN HP)).mono ?_;rintro e w2 ⟨rfl,hP2⟩;have HP2:=bE hP2;clear hP2;go_wp2;go_ret;exact⟨rfl,aN HP2⟩
 ·go_enter func133,ntmps133;go_wp2_with fail
  refine(aN H w (bF _ _)).mono ?_;rintro e w' ⟨rfl,hP⟩;have HP:=bE hP;clear hP;go_wp2;go_ret;exact⟨rfl,aN HP⟩
theorem fq (w:aY)(dd:Nat)(c:Prop)[Decidable c](H:Hid (bH aQ 139 #[aK (aE ⟨dd,0,aC⟩)] w λr w' =>(if c then ∃a,r=aM (aK (aE a)) else r=aM (aK aC))/\w' =w)):bH aQ 133 #[aK (aE ⟨dd,0,aC⟩),aI ⟨#[105]⟩] w λr w' =>r=aM (bB (decide c))/\w' =w:=by
 by_cases hc:c
 ·simp only[eJ hc] at H;rw[decide_eq_true hc];go_enter func133,ntmps133;go_wp2_with fail
  refine(aN H).mono ?_;rintro e w' ⟨⟨a,rfl⟩,rfl⟩;go_wp2;go_ret;exact⟨rfl,rfl⟩
 ·simp only[dL hc] at H;rw[decide_eq_false hc];go_enter func133,ntmps133;go_wp2_with fail
  refine(aN H).mono ?_;rintro e w' ⟨rfl,rfl⟩;go_wp2;go_ret;exact⟨rfl,rfl⟩
theorem V8 (w:aY)(dd:Nat)(c:Prop)[Decidable c](H:Hid (bH aQ 139 #[aK (aE ⟨dd,0,aC⟩)] w λr w' =>(if c then ∃a,r=aM (aK (aE a)) else r=aM (aK aC))/\w' =w)):bH aQ 133 #[aK (aE ⟨dd,0,aC⟩),aI ⟨#[108,101,97,118,101]⟩] w λr w' =>r=aM (bB (decide c))/\w' =w:=by
 by_cases hc:c
 ·simp only[eJ hc] at H;rw[decide_eq_true hc];go_enter func133,ntmps133;go_wp2_with fail
  refine(aN H).mono ?_;rintro e w' ⟨⟨a,rfl⟩,rfl⟩;go_wp2;go_ret;exact⟨rfl,rfl⟩
 ·simp only[dL hc] at H;rw[decide_eq_false hc];go_enter func133,ntmps133;go_wp2_with fail
  refine(aN H).mono ?_;rintro e w' ⟨rfl,rfl⟩;go_wp2;go_ret;exact⟨rfl,rfl⟩
theorem CP (w:aY)(rb n iD pos q:Nat)(aW:Option Addr)(hn:n<=500)(hq:pos+1=q)(hp:q=n)(c1:w.cell? ⟨rb,1,aC⟩=aE (aJ aW n iD))(c2:w.cell? ⟨rb,2,aC⟩=aE (aH aF pos)):
 bH aQ 113 #[aK (aE ⟨rb,0,aC⟩)] w λr w' =>r=aM (bC #[.nilIface,aH aF 4])/\bA w.heap.size w w' :=by
 have i0:aF.wrap ((pos:Int)+1)=(q:Int):=wj;have i3:((q:Int)==(n:Int))=aX:=by rw[beq_iff_eq];omega
 clear hp hq;go_enter func113,ntmps113;go_wp2
 go_quiet (fail)
 go_wp2;go_ret2;exact⟨rfl,lB (bF _ _) _⟩
theorem x6 (w:aY)(rb n iD pos q gW:Nat)(t:ByteArray)(hn:n<=500)(hq:pos+1=q)(hp:q<n)(hb:L.fJ t.data.toList=aX)(c1:w.cell? ⟨rb,1,aC⟩=aE (aJ (aE ⟨gW,0,aC⟩) n iD))(c2:w.cell? ⟨rb,2,aC⟩=aE (aH aF pos))(c3:w.cell? ⟨gW,q,aC⟩=aE (aI t)):
 bH aQ 113 #[aK (aE ⟨rb,0,aC⟩)] w λr w' =>r=aM (bC #[.nilIface,aH aF 4])/\bA w.heap.size w w' :=by
 have i0:aF.wrap ((pos:Int)+1)=(q:Int):=wj;have i1:(0:Int)<=(q:Int):=by omega
 have i2:(q:Int)<(n:Int):=by omega
 have i3:((q:Int)==(n:Int))=aV:=by rw[beq_eq_false_iff_ne];omega
 have oN:∀W,bH aQ 68 #[aI t] W λe w' =>e=aM (bB aX)/\w' =W:=λW=>by
  have:=rS t W;rw[Go.ByteArray.toList_eq,hb] at this;exact this
 have HB:=bE oN;clear hq hp oN hb;go_enter func113,ntmps113;go_wp2;go_region_held3 (λw' =>w'.cell? ⟨rb,1,aC⟩=aE (aJ (aE ⟨gW,0,aC⟩) n iD)/\w'.cell? ⟨rb,2,aC⟩=aE (aH aF pos)/\w'.cell? ⟨gW,q,aC⟩=aE (aI t)) (first|exact⟨c1,c2,c3⟩|exact(by assumption)|go_keep)
  ((go_at_call 68;refine(aN HB _).mono ?_
    rintro e w2 ⟨rfl,rfl⟩))
 go_wp2;go_ret2;exact⟨rfl,(bF _ _).drew⟩
theorem Lm (w:aY)(mb rb n iD pos q gW:Nat)(t:ByteArray)(V R:aG)(code:Int)(hn:n<=500)(hq:pos+1=q)(hp:q<n)(hb:L.fJ t.data.toList=aV)(c0:w.cell? ⟨rb,0,aC⟩=aE (aK (aE ⟨mb,0,aC⟩)))(c1:w.cell? ⟨rb,1,aC⟩=aE (aJ (aE ⟨gW,0,aC⟩) n iD))(c2:w.cell? ⟨rb,2,aC⟩=aE (aH aF pos))(c3:w.cell? ⟨gW,q,aC⟩=aE (aI t))(hV:(V=.nilIface/\R=.nilIface/\code=2)\/∃T v,V=bO T v/\R=bO T v/\code=0)(HN:Hid (∀W,bA w.heap.size w W->bH aQ 30 #[aK (aE ⟨mb,0,aC⟩),aI t] W λe w' =>e=aM V/\bA W.heap.size W w')):
 bH aQ 113 #[aK (aE ⟨rb,0,aC⟩)] w λr w' =>r=aM (bC #[R,aH aF code])/\bA w.heap.size w w' :=by
 have i0:aF.wrap ((pos:Int)+1)=(q:Int):=wj;have i1:(0:Int)<=(q:Int):=by omega
 have i2:(q:Int)<(n:Int):=by omega
 have i3:((q:Int)==(n:Int))=aV:=by rw[beq_eq_false_iff_ne];omega
 have oN:∀W,bH aQ 68 #[aI t] W λe w' =>e=aM (bB aV)/\w' =W:=λW=>by
  have:=rS t W;rw[Go.ByteArray.toList_eq,hb] at this;exact this
 have HB:=bE oN;have HV:=bE hV;have z0:=eG c0;have z3:=eG c3;clear hq hp oN hb hV;go_enter func113,ntmps113;go_wp2;go_region_held3 (λw' =>w'.cell? ⟨rb,1,aC⟩=aE (aJ (aE ⟨gW,0,aC⟩) n iD)/\w'.cell? ⟨rb,2,aC⟩=aE (aH aF pos)/\w'.cell? ⟨gW,q,aC⟩=aE (aI t)) (first|exact⟨c1,c2,c3⟩|exact(by assumption)|go_keep)
  ((go_at_call 68;refine(aN HB _).mono ?_
    rintro e w2 ⟨rfl,rfl⟩))
 go_wp2;go_region_held3 (λw' =>w'.cell? ⟨rb,0,aC⟩=aE (aK (aE ⟨mb,0,aC⟩))/\w'.cell? ⟨rb,1,aC⟩=aE (aJ (aE ⟨gW,0,aC⟩) n iD)/\w'.cell? ⟨rb,2,aC⟩=aE (aH aF pos)/\w'.cell? ⟨gW,q,aC⟩=aE (aI t)) (first|exact⟨c0,c1,c2,c3⟩|exact(by assumption)|go_keep)
  ((go_at_call 30;refine(aN HN _ (bF _ _).drew.drew).mono ?_
    rintro e w2 ⟨rfl,eD⟩;have c0:=((eI eD).1 rb 0 z0).trans c0;have c1:=((eI eD).1 rb 1 z0).trans c1;have c2:=((eI eD).1 rb 2 z0).trans c2;have c3:=((eI eD).1 gW q z3).trans c3;have uG:=bE (show bA w.heap.size w w2 from(bF _ _).drew.drew.trans eD);clear eD))
 rcases aN HV with ⟨rfl,rfl,rfl⟩|⟨T,v,rfl,rfl,rfl⟩
 ·go_wp2;go_ret2;exact⟨rfl,aN uG⟩
 ·go_wp2;go_ret2;exact⟨rfl,aN uG⟩
def Ld (all:List N.iM) (wv:List Own) (ws:List (List UInt8)) (pos:Nat):aG×Int:=
 if N.dB (⟨all,[],[],[],0⟩:N.cE) ws[pos+1]? aV≠0 then(.nilIface,4)
 else match N.eS all ((ws[pos+1]?).getD []) all.length with
  |none=>(.nilIface,2)
  |some k=>(mE wv (aE k),0)
theorem Ga (w:aY)(mb rb:Nat)(vO vB vW vS vR vT:aG)(wv:List Own)(s:L.gJ)(all:List N.iM)(hr:eV w mb rb vO vB vW vS vR vT s)(ho:jE w all wv vO vB)(hp:s.pos<s.words.length):
 bH aQ 113 #[aK (aE ⟨rb,0,aC⟩)] w λr w' =>r=aM (bC #[(Ld all wv s.words s.pos).1,aH aF (Ld all wv s.words s.pos).2])/\bA w.heap.size w w' :=by
 have c0:=cq 0 hr.r rfl;have c1:=cq 1 hr.r rfl;have c2:=cq 2 hr.r rfl;rcases jB hr.wd with ⟨_,h0,_⟩|⟨gW,iD,rfl,_⟩
 ·omega
 unfold Ld;by_cases eQ:s.pos+1<s.words.length
 ·obtain⟨t,ht⟩:∃t,s.words[s.pos+1]?=aE t:=⟨_,bL eQ⟩
  have c3:w.cell? ⟨gW,s.pos+1,aC⟩=aE (aI ⟨t.toArray⟩):=by
   have:=hr.wd.cells (g:=gW) rfl (s.pos+1) (mQ t) (by rw[cI,ht];rfl);rwa[fE,dC] at this
  rw[ht];by_cases hb:L.fJ t=aX
  ·have jD:N.dB (⟨all,[],[],[],0⟩:N.cE) (aE t) aV≠0:=by
    unfold N.dB;simp[hb]
   rw[eJ jD];exact x6 w rb s.words.length iD s.pos (s.pos+1) gW ⟨t.toArray⟩ hr.wl rfl eQ (by simpa using hb) c1 c2 c3
  ·rw[Bool.not_eq_true] at hb;have jD:¬N.dB (⟨all,[],[],[],0⟩:N.cE) (aE t) aV≠0:=by
    unfold N.dB;simp[hb]
   rw[dL jD];have hn:∀W,bA w.heap.size w W->bH aQ 30 #[aK (aE ⟨mb,0,aC⟩),aI ⟨t.toArray⟩] W λe w' =>e=aM (mE wv (N.eS all t all.length))/\bA W.heap.size W w' :=λW oN=>by
    have hm:=(hr.below oN).m;have:=Fy W mb ⟨t.toArray⟩ all wv vO vB (aZ hm rfl) (ho.below oN);simpa using this
   simp only[Option.getD_some];cases hk:N.eS all t all.length with
   |none=>
    rw[hk] at hn;exact Lm w mb rb s.words.length iD s.pos (s.pos+1) gW ⟨t.toArray⟩ _ _ _ hr.wl rfl eQ (by simpa using hb) c0 c1 c2 c3 (.inl ⟨rfl,rfl,rfl⟩) (bE hn)
   |some k=>
    rw[hk] at hn;obtain⟨Hd,_⟩:=mN all _ _ _ hk;obtain⟨o,FZ⟩:∃o,wv[k]?=aE o:=⟨_,bL (by rw[ho.len];exact Hd)⟩
    have hv:mE wv (aE k)=iW o:=by unfold mE;rw[Option.bind_some,FZ];rfl
    obtain⟨T,v,Tg⟩:=vZ o;exact Lm w mb rb s.words.length iD s.pos (s.pos+1) gW ⟨t.toArray⟩ _ _ _ hr.wl rfl eQ (by simpa using hb) c0 c1 c2 c3 (.inr ⟨T,v,hv.trans Tg,hv.trans Tg,rfl⟩) (bE hn)
 ·have Sx:s.words[s.pos+1]?=aC:=dZ (by omega);rw[Sx];have jD:N.dB (⟨all,[],[],[],0⟩:N.cE) aC aV≠0:=by
   show(4:Int)≠0;decide
  rw[eJ jD];exact CP w rb s.words.length iD s.pos (s.pos+1) _ hr.wl rfl (by omega) c1 c2
theorem xQ (s:List UInt8):N.rC s=(L.find s).isSome:=by
 have key:∀(ps:List L.Prim) (ns:List (List UInt8)),(∀b,b∈ns↔b∈ps.map (·.name))->(ns.any λb=>s==b)=(ps.find? λp=>s==p.name).isSome:=by
  intro ps ns h;rw[Bool.eq_iff_iff,List.any_eq_true,List.find?_isSome];constructor
  ·rintro⟨b,hb,he⟩;rw[h] at hb;obtain⟨p,hp,hn⟩:=List.mem_map.1 hb;exact⟨p,hp,by rw[hn];exact he⟩
  ·rintro⟨p,hp,he⟩;exact⟨p.name,(h _).2 (List.mem_map_of_mem hp),he⟩
 exact key _ _ (by
  intro b;constructor
  ·intro hb;simp only[N.Wm,List.mem_cons,dR,or_false] at hb;simp only[L.oY,L.sV,List.cons_append,List.nil_append,List.map_cons,List.map_nil,List.mem_cons,dR,or_false];rcases hb with h|h|h|h|h|h|h|h|h|h|h|h|h|h|h|h|h|h|h|h|h|h|h|h|h|h|h <;> simp[h]
  ·intro hb;simp only[L.oY,L.sV,List.cons_append,List.nil_append,List.map_cons,List.map_nil,List.mem_cons,dR,or_false] at hb;simp only[N.Wm,List.mem_cons,dR,or_false];rcases hb with h|h|h|h|h|h|h|h|h|h|h|h|h|h|h|h|h|h|h|h|h|h|h|h|h|h|h <;> simp[h])
variable {all:List N.iM}{vO vB:aG}
theorem Gi (ho:jE w all wv vO vB)(m:N.cE)(hm:m.all=all)(l:List UInt8)(hb:L.fJ l=aV):
 match N.iU m l with
 |none=>rJ all wv l=.nilIface
 |some c=>rJ all wv l=fB wv (c,0)/\c.kind≠4/\lI all all.length c:=by
 have e0:rJ all wv l=match N.eS all l all.length with|some k=>mE wv (aE k)|none=>nI l:=dL (by rw[hb];exact Bool.false_ne_true)
 rw[e0];unfold N.iU N.fP;rw[hm];cases hk:N.eS all l all.length with
 |some k=>
  obtain⟨Hd,e,he,_,Ss⟩:=mN all _ _ _ hk;have eQ:k<wv.length:=by rw[ho.len];exact Hd
  obtain⟨o,FZ⟩:∃o,wv[k]?=aE o:=⟨_,bL eQ⟩
  refine⟨?_,by show(2:Nat)≠4;decide,.inr (.inl ⟨rfl,k,e,rfl,Hd,he,jX Ss⟩)⟩;show Yy ((aE k).bind (wv[·]?))=((wv[((k:Nat):Int).toNat]?).map iW).getD .nilIface;rw[Option.bind_some,Int.toNat_natCast,FZ];rfl
 |none=>
  simp only;rw[xQ];unfold nI;cases hf:L.find l with
  |some p=>
   simp only[Option.isSome_some,if_true];refine⟨?_,by show(3:Nat)≠4;decide,.inr (.inr (.inl ⟨rfl,by show(L.find l).isSome=aX;rw[hf];rfl⟩))⟩;show _=((L.find l).map λp=>bO 120 (dD p)).getD .nilIface;rw[hf];rfl
  |none=>
   simp only[Option.isSome_none,Bool.false_eq_true,if_false];cases hn:L.number l with
   |none=>rfl
   |some n=>exact⟨rfl,by show(1:Nat)≠4;decide,.inl ⟨rfl,L.Wp hn⟩⟩
theorem Qs (v:aG)(W:aY):(bY (bO 117 v) 107 134 aX).run aQ W=.ok (bC #[aI ⟨#[]⟩,bB aV]) W:=by kernel_rfl
theorem QT (v:aG)(W:aY):(bY (bO 120 v) 107 134 aX).run aQ W=.ok (bC #[aI ⟨#[]⟩,bB aV]) W:=by kernel_rfl
theorem OQ (v:aG)(W:aY):(bY (bO 122 v) 107 134 aX).run aQ W=.ok (bC #[aI ⟨#[]⟩,bB aV]) W:=by kernel_rfl
theorem QN (v:aG)(W:aY):(bY (bO 124 v) 107 134 aX).run aQ W=.ok (bC #[aI ⟨#[]⟩,bB aV]) W:=by kernel_rfl
theorem NX (v:aG)(W:aY):(bY (bO 130 v) 107 134 aX).run aQ W=.ok (bC #[aI ⟨#[]⟩,bB aV]) W:=by kernel_rfl
theorem PC (v:aG)(W:aY):(bY (bO 132 v) 107 134 aX).run aQ W=.ok (bC #[aI ⟨#[]⟩,bB aV]) W:=by kernel_rfl
theorem XX (W:aY):(bY .nilIface 107 134 aX).run aQ W=.ok (bC #[aI ⟨#[]⟩,bB aV]) W:=by kernel_rfl
variable {j:Nat}{c:N.Cell}
theorem Tv (g:Nat)(hc:lI all j c)(hl:wv.length=all.length)(hk:c.kind≠4):
 ∃T v,fB wv (c,g)=bO T v/\∀W,(bY (bO T v) 107 134 aX).run aQ W=.ok (bC #[aI ⟨#[]⟩,bB aV]) W:=by
 rcases hc with ⟨h1,nM⟩|⟨h2,k,e,hn,_,he,kY⟩|⟨h3,Ja⟩|⟨h4,_⟩
 ·exact⟨_,_,eJ h1,λW=>Qs _ W⟩
 ·have hnk:c.n.toNat=k:=by omega
  have eQ:k<wv.length:=by
   rw[hl];exact(bI.1 he).1
  obtain⟨o,ho⟩:∃o,wv[k]?=aE o:=⟨_,bL eQ⟩
  have e1:fB wv (c,g)=iW o:=by
   refine(dL (by show ¬c.kind=1;omega)).trans ((eJ h2).trans ?_);show((wv[c.n.toNat]?).map iW).getD .nilIface=_;rw[hnk,ho];rfl
  rw[e1];cases o with
  |defn b=>exact⟨_,_,rfl,λW=>OQ _ W⟩
  |qW b=>exact⟨_,_,rfl,λW=>QN _ W⟩
  |cons nm t n=>exact⟨_,_,rfl,λW=>NX _ W⟩
  |mark nm t=>exact⟨_,_,rfl,λW=>PC _ W⟩
 ·obtain⟨p,hp⟩:=Option.isSome_iff_exists.1 Ja;have e1:fB wv (c,g)=bO 120 (dD p):=by
   refine(dL (by show ¬c.kind=1;omega)).trans ((dL (by show ¬c.kind=2;omega)).trans ((eJ h3).trans ?_));show((L.find c.name).map λp=>bO 120 (dD p)).getD .nilIface=_;rw[hp];rfl
  rw[e1];exact⟨_,_,rfl,λW=>QT _ W⟩
 ·exact(hk h4).elim
theorem Fg (w:aY)(rb dd:Nat)(V:aG)(code:Int)(hc:(code != 0)=aX)(P:aY->Prop)(H:Hid (bH aQ 113 #[aK (aE ⟨rb,0,aC⟩)] w λr w' =>r=aM (bC #[V,aH aF code])/\P w')):
 bH aQ 134 #[aK (aE ⟨rb,0,aC⟩),aK (aE ⟨dd,0,aC⟩)] w λr w' =>r=aM (aH aF code)/\P w' :=by
 go_enter func134,ntmps134;go_wp2_with fail
 refine(aN H).mono ?_;rintro e w' ⟨rfl,hP⟩;have HP:=bE hP;clear hP;go_wp2;go_ret;exact⟨rfl,aN HP⟩
theorem Dg (w:aY)(rb dd pos:Nat)(T:TypeId)(v:aG)(nm:ByteArray)(tok code:Int)(P Q:aY->Prop)(sF:pos<=500)(H:Hid (bH aQ 113 #[aK (aE ⟨rb,0,aC⟩)] w λr w' =>r=aM (bC #[bO T v,aH aF 0])/\(∀F:Nat,(method (F+1) T v "Token").run aQ w' =.ok (65,bM #[aI nm,aH aF tok]) w')/\P w'))(HA:Hid (∀w1 W,P w1->bA w1.heap.size w1 W->bH aQ 135 #[aK (aE ⟨dd,0,aC⟩),bO 117 (aH aF tok)] W λr w' =>r=aM (aH aF code)/\w'.cell? ⟨rb,2,aC⟩=aE (aH aF pos)/\w'.frozen? ⟨rb,2,aC⟩=aV/\Q w')):
 bH aQ 134 #[aK (aE ⟨rb,0,aC⟩),aK (aE ⟨dd,0,aC⟩)] w λr w' =>r=aM (aH aF code)/\∃W,Q W/\((code≠0/\w' =W)\/(code=0/\w' =W.setCell ⟨rb,2,aC⟩ (aH aF ((pos:Int)+1)))):=by
 have i0:=wi ((pos:Int)+1);by_cases hc:code=0
 ·subst hc;go_enter func134,ntmps134;go_wp2_with fail
  refine(aN H).mono ?_;rintro e w1 ⟨rfl,hm,hP⟩;have HP:=bE hP;clear hP;go_wp2_with fail
  refine(tL _ nm tok).mono ?_;rintro e w2 ⟨rfl,hb⟩;have YJ:=bE (aN HA w1 w2 (aN HP) hb);clear hb;go_wp2_with fail
  refine(aN YJ).mono ?_;rintro e w3 ⟨rfl,c2,f2,hQ⟩;have HQ:=bE hQ;clear hQ;go_wp2;go_ret;exact⟨rfl,w3,aN HQ,by first|exact .inr ⟨rfl,rfl⟩|exact .inr ⟨trivial,rfl⟩⟩
 ·have hcb:(code != 0)=aX:=by rw[bne_iff_ne];exact hc
  have Hc:=bE hc;clear hc;go_enter func134,ntmps134;go_wp2_with fail
  refine(aN H).mono ?_;rintro e w1 ⟨rfl,hm,hP⟩;have HP:=bE hP;clear hP;go_wp2_with fail
  refine(tL _ nm tok).mono ?_;rintro e w2 ⟨rfl,hb⟩;have YJ:=bE (aN HA w1 w2 (aN HP) hb);clear hb;go_wp2_with fail
  refine(aN YJ).mono ?_;rintro e w3 ⟨rfl,c2,f2,hQ⟩;have HQ:=bE hQ;clear hQ;go_wp2;go_ret;exact⟨rfl,w3,aN HQ,.inl ⟨aN Hc,rfl⟩⟩
theorem wP (w:aY)(s:ByteArray)(hs:s.size<=281474976710656):bH aQ 132 #[aI s] w λe w' =>e=aM (aI s)/\bA w.heap.size w w' :=by
 go_enter func132,ntmps132;go_wp2_with fail
 refine(Tryz.stringslite_Clone s _ hs).mono ?_;rintro e w' ⟨rfl,hb⟩;have HB:=bE hb;clear hb;go_wp2;go_ret;exact⟨rfl,aN HB⟩
theorem fj (w:aY)(mb rb dd gW n iD pos:Nat)(t:ByteArray)(ht:t.size<=1000)(sF:pos<n)(c0:w.cell? ⟨rb,0,aC⟩=aE (aK (aE ⟨mb,0,aC⟩)))(c1:w.cell? ⟨rb,1,aC⟩=aE (aJ (aE ⟨gW,0,aC⟩) n iD))(c2:w.cell? ⟨rb,2,aC⟩=aE (aH aF pos))(c3:w.cell? ⟨gW,pos,aC⟩=aE (aI t))(HM:Hid (∀W,bA w.heap.size w W->bH aQ 53 #[aK (aE ⟨mb,0,aC⟩),aI t] W λr w' =>r=aM (bO 134 (aI t))/\bA W.heap.size W w'))(HF:Hid (∀W,bA w.heap.size w W->bH aQ 133 #[aK (aE ⟨dd,0,aC⟩),aI t] W λr w' =>r=aM (bB aV)/\bA W.heap.size W w')):
 bH aQ 125 #[aK (aE ⟨rb,0,aC⟩),aK (aE ⟨dd,0,aC⟩)] w λr w' =>r=aM (aH aF 3)/\bA w.heap.size w w' :=by
 have r5:=Hx (aI t);have k0:(0:Int)<=(pos:Int):=by omega
 have k1:(pos:Int)<(n:Int):=by omega
 have z0:=eG c0;have z3:=eG c3;have SN:=bE (λW=>wP W t (by omega));clear ht sF;go_enter func125,ntmps125;go_wp2;go_region_held3 (λw' =>w'.cell? ⟨rb,1,aC⟩=aE (aJ (aE ⟨gW,0,aC⟩) n iD)/\w'.cell? ⟨rb,2,aC⟩=aE (aH aF pos)/\w'.cell? ⟨gW,pos,aC⟩=aE (aI t)) (first|exact⟨c1,c2,c3⟩|exact(by assumption)|go_keep)
  ((go_at_call 132;refine(aN SN _).mono ?_
    rintro e w2 ⟨rfl,eD⟩;have c0:=((eI eD).1 rb 0 z0).trans c0;have c1:=((eI eD).1 rb 1 z0).trans c1;have c2:=((eI eD).1 rb 2 z0).trans c2;have c3:=((eI eD).1 gW pos z3).trans c3;have uG:=bE (show bA w.heap.size w w2 from(bF _ _).drew.trans eD);clear eD))
 go_wp2_with fail
 refine(aN HM w2 (aN uG)).mono ?_;rintro e w3 ⟨rfl,eW⟩;have Bv:=bE (show bA w.heap.size w w3 from(aN uG).trans (eW.mono (aN uG).size));clear eW;go_wp2_with fail
 refine(aN HF w3 (aN Bv)).mono ?_;rintro e w4 ⟨rfl,rM⟩;have Es:=bE (show bA w.heap.size w w4 from(aN Bv).trans (rM.mono (aN Bv).size));clear rM;go_wp2;go_ret;exact⟨rfl,aN Es⟩
theorem Oa (w:aY)(mb rb dd gW n iD pos:Nat)(t:ByteArray)(ht:t.size<=1000)(sF:pos<n)(c0:w.cell? ⟨rb,0,aC⟩=aE (aK (aE ⟨mb,0,aC⟩)))(c1:w.cell? ⟨rb,1,aC⟩=aE (aJ (aE ⟨gW,0,aC⟩) n iD))(c2:w.cell? ⟨rb,2,aC⟩=aE (aH aF pos))(c3:w.cell? ⟨gW,pos,aC⟩=aE (aI t))(hq:(t.toList==[39])=aX)(code:Int)(P:aY->aY->Prop)(HM:Hid (∀W,bA w.heap.size w W->bH aQ 53 #[aK (aE ⟨mb,0,aC⟩),aI t] W λr w' =>r=aM (bO 134 (aI t))/\bA W.heap.size W w'))(HF:Hid (∀W,bA w.heap.size w W->bH aQ 133 #[aK (aE ⟨dd,0,aC⟩),aI t] W λr w' =>r=aM (bB aX)/\bA W.heap.size W w'))(HR:Hid (∀W,bA w.heap.size w W->bH aQ 134 #[aK (aE ⟨rb,0,aC⟩),aK (aE ⟨dd,0,aC⟩)] W λr w' =>r=aM (aH aF code)/\P W w')):
 bH aQ 125 #[aK (aE ⟨rb,0,aC⟩),aK (aE ⟨dd,0,aC⟩)] w λr w' =>r=aM (aH aF code)/\∃W,bA w.heap.size w W/\P W w' :=by
 have r5:=Hx (aI t);have k0:(0:Int)<=(pos:Int):=by omega
 have k1:(pos:Int)<(n:Int):=by omega
 have z0:=eG c0;have z3:=eG c3;have SN:=bE (λW=>wP W t (by omega));clear ht sF;go_enter func125,ntmps125;go_wp2;go_region_held3 (λw' =>w'.cell? ⟨rb,1,aC⟩=aE (aJ (aE ⟨gW,0,aC⟩) n iD)/\w'.cell? ⟨rb,2,aC⟩=aE (aH aF pos)/\w'.cell? ⟨gW,pos,aC⟩=aE (aI t)) (first|exact⟨c1,c2,c3⟩|exact(by assumption)|go_keep)
  ((go_at_call 132;refine(aN SN _).mono ?_
    rintro e w2 ⟨rfl,eD⟩;have c0:=((eI eD).1 rb 0 z0).trans c0;have c1:=((eI eD).1 rb 1 z0).trans c1;have c2:=((eI eD).1 rb 2 z0).trans c2;have c3:=((eI eD).1 gW pos z3).trans c3;have uG:=bE (show bA w.heap.size w w2 from(bF _ _).drew.trans eD);clear eD))
 go_wp2_with fail
 refine(aN HM w2 (aN uG)).mono ?_;rintro e w3 ⟨rfl,eW⟩;have Bv:=bE (show bA w.heap.size w w3 from(aN uG).trans (eW.mono (aN uG).size));clear eW;go_wp2_with fail
 refine(aN HF w3 (aN Bv)).mono ?_;rintro e w4 ⟨rfl,rM⟩;have Es:=bE (show bA w.heap.size w w4 from(aN Bv).trans (rM.mono (aN Bv).size));clear rM;go_wp2_with fail
 refine(aN HR w4 (aN Es)).mono ?_;rintro e w5 ⟨rfl,hP⟩;have HP:=bE hP;clear hP;go_wp2;go_ret;exact⟨rfl,w4,aN Es,aN HP⟩
theorem FV (w:aY)(mb rb dd gW n iD pos:Nat)(t:ByteArray)(ht:t.size<=1000)(sF:pos<n)(c0:w.cell? ⟨rb,0,aC⟩=aE (aK (aE ⟨mb,0,aC⟩)))(c1:w.cell? ⟨rb,1,aC⟩=aE (aJ (aE ⟨gW,0,aC⟩) n iD))(c2:w.cell? ⟨rb,2,aC⟩=aE (aH aF pos))(c3:w.cell? ⟨gW,pos,aC⟩=aE (aI t))(hq:(t.toList==[39])=aV)(code:Int)(P:aY->aY->Prop)(HM:Hid (∀W,bA w.heap.size w W->bH aQ 53 #[aK (aE ⟨mb,0,aC⟩),aI t] W λr w' =>r=aM (bO 134 (aI t))/\bA W.heap.size W w'))(HF:Hid (∀W,bA w.heap.size w W->bH aQ 133 #[aK (aE ⟨dd,0,aC⟩),aI t] W λr w' =>r=aM (bB aX)/\bA W.heap.size W w'))(HR:Hid (∀W,bA w.heap.size w W->bH aQ 135 #[aK (aE ⟨dd,0,aC⟩),bO 134 (aI t)] W λr w' =>r=aM (aH aF code)/\P W w')):
 bH aQ 125 #[aK (aE ⟨rb,0,aC⟩),aK (aE ⟨dd,0,aC⟩)] w λr w' =>r=aM (aH aF code)/\∃W,bA w.heap.size w W/\P W w' :=by
 have r5:=Hx (aI t);have k0:(0:Int)<=(pos:Int):=by omega
 have k1:(pos:Int)<(n:Int):=by omega
 have z0:=eG c0;have z3:=eG c3;have SN:=bE (λW=>wP W t (by omega));clear ht sF;go_enter func125,ntmps125;go_wp2;go_region_held3 (λw' =>w'.cell? ⟨rb,1,aC⟩=aE (aJ (aE ⟨gW,0,aC⟩) n iD)/\w'.cell? ⟨rb,2,aC⟩=aE (aH aF pos)/\w'.cell? ⟨gW,pos,aC⟩=aE (aI t)) (first|exact⟨c1,c2,c3⟩|exact(by assumption)|go_keep)
  ((go_at_call 132;refine(aN SN _).mono ?_
    rintro e w2 ⟨rfl,eD⟩;have c0:=((eI eD).1 rb 0 z0).trans c0;have c1:=((eI eD).1 rb 1 z0).trans c1;have c2:=((eI eD).1 rb 2 z0).trans c2;have c3:=((eI eD).1 gW pos z3).trans c3;have uG:=bE (show bA w.heap.size w w2 from(bF _ _).drew.trans eD);clear eD))
 go_wp2_with fail
 refine(aN HM w2 (aN uG)).mono ?_;rintro e w3 ⟨rfl,eW⟩;have Bv:=bE (show bA w.heap.size w w3 from(aN uG).trans (eW.mono (aN uG).size));clear eW;go_wp2_with fail
 refine(aN HF w3 (aN Bv)).mono ?_;rintro e w4 ⟨rfl,rM⟩;have Es:=bE (show bA w.heap.size w w4 from(aN Bv).trans (rM.mono (aN Bv).size));clear rM;go_wp2_with fail
 refine(aN HR w4 (aN Es)).mono ?_;rintro e w5 ⟨rfl,hP⟩;have HP:=bE hP;clear hP;go_wp2;go_ret;exact⟨rfl,w4,aN Es,aN HP⟩
theorem fo (w:aY)(mb rb dd gW n iD pos:Nat)(t:ByteArray)(ht:t.size<=1000)(sF:pos<n)(c0:w.cell? ⟨rb,0,aC⟩=aE (aK (aE ⟨mb,0,aC⟩)))(c1:w.cell? ⟨rb,1,aC⟩=aE (aJ (aE ⟨gW,0,aC⟩) n iD))(c2:w.cell? ⟨rb,2,aC⟩=aE (aH aF pos))(c3:w.cell? ⟨gW,pos,aC⟩=aE (aI t))(HM:Hid (∀W,bA w.heap.size w W->bH aQ 53 #[aK (aE ⟨mb,0,aC⟩),aI t] W λr w' =>r=aM (.nilIface)/\bA W.heap.size W w')):
 bH aQ 125 #[aK (aE ⟨rb,0,aC⟩),aK (aE ⟨dd,0,aC⟩)] w λr w' =>r=aM (aH aF 2)/\bA w.heap.size w w' :=by
 have r5:=XX;have k0:(0:Int)<=(pos:Int):=by omega
 have k1:(pos:Int)<(n:Int):=by omega
 have z0:=eG c0;have z3:=eG c3;have SN:=bE (λW=>wP W t (by omega));clear ht sF;go_enter func125,ntmps125;go_wp2;go_region_held3 (λw' =>w'.cell? ⟨rb,1,aC⟩=aE (aJ (aE ⟨gW,0,aC⟩) n iD)/\w'.cell? ⟨rb,2,aC⟩=aE (aH aF pos)/\w'.cell? ⟨gW,pos,aC⟩=aE (aI t)) (first|exact⟨c1,c2,c3⟩|exact(by assumption)|go_keep)
  ((go_at_call 132;refine(aN SN _).mono ?_
    rintro e w2 ⟨rfl,eD⟩;have c0:=((eI eD).1 rb 0 z0).trans c0;have c1:=((eI eD).1 rb 1 z0).trans c1;have c2:=((eI eD).1 rb 2 z0).trans c2;have c3:=((eI eD).1 gW pos z3).trans c3;have uG:=bE (show bA w.heap.size w w2 from(bF _ _).drew.trans eD);clear eD))
 go_wp2_with fail
 refine(aN HM w2 (aN uG)).mono ?_;rintro e w3 ⟨rfl,eW⟩;have Bv:=bE (show bA w.heap.size w w3 from(aN uG).trans (eW.mono (aN uG).size));clear eW;go_wp2;go_ret;exact⟨rfl,aN Bv⟩
theorem E8 (w:aY)(mb rb dd gW n iD pos:Nat)(t:ByteArray)(ht:t.size<=1000)(sF:pos<n)(c0:w.cell? ⟨rb,0,aC⟩=aE (aK (aE ⟨mb,0,aC⟩)))(c1:w.cell? ⟨rb,1,aC⟩=aE (aJ (aE ⟨gW,0,aC⟩) n iD))(c2:w.cell? ⟨rb,2,aC⟩=aE (aH aF pos))(c3:w.cell? ⟨gW,pos,aC⟩=aE (aI t))(hq:(t.toList==[39])=aV)(T:TypeId)(v:aG)(r5:∀W,(bY (bO T v) 107 134 aX).run aQ W=.ok (bC #[aI ⟨#[]⟩,bB aV]) W)(code:Int)(P:aY->aY->Prop)(HM:Hid (∀W,bA w.heap.size w W->bH aQ 53 #[aK (aE ⟨mb,0,aC⟩),aI t] W λr w' =>r=aM (bO T v)/\bA W.heap.size W w'))(HR:Hid (∀W,bA w.heap.size w W->bH aQ 135 #[aK (aE ⟨dd,0,aC⟩),bO T v] W λr w' =>r=aM (aH aF code)/\P W w')):
 bH aQ 125 #[aK (aE ⟨rb,0,aC⟩),aK (aE ⟨dd,0,aC⟩)] w λr w' =>r=aM (aH aF code)/\∃W,bA w.heap.size w W/\P W w' :=by
 have k0:(0:Int)<=(pos:Int):=by omega
 have k1:(pos:Int)<(n:Int):=by omega
 have z0:=eG c0;have z3:=eG c3;have SN:=bE (λW=>wP W t (by omega));clear ht sF;go_enter func125,ntmps125;go_wp2;go_region_held3 (λw' =>w'.cell? ⟨rb,1,aC⟩=aE (aJ (aE ⟨gW,0,aC⟩) n iD)/\w'.cell? ⟨rb,2,aC⟩=aE (aH aF pos)/\w'.cell? ⟨gW,pos,aC⟩=aE (aI t)) (first|exact⟨c1,c2,c3⟩|exact(by assumption)|go_keep)
  ((go_at_call 132;refine(aN SN _).mono ?_
    rintro e w2 ⟨rfl,eD⟩;have c0:=((eI eD).1 rb 0 z0).trans c0;have c1:=((eI eD).1 rb 1 z0).trans c1;have c2:=((eI eD).1 rb 2 z0).trans c2;have c3:=((eI eD).1 gW pos z3).trans c3;have uG:=bE (show bA w.heap.size w w2 from(bF _ _).drew.trans eD);clear eD))
 go_wp2_with fail
 refine(aN HM w2 (aN uG)).mono ?_;rintro e w3 ⟨rfl,eW⟩;have Bv:=bE (show bA w.heap.size w w3 from(aN uG).trans (eW.mono (aN uG).size));clear eW;go_wp2_with fail
 refine(aN HR w3 (aN Bv)).mono ?_;rintro e w5 ⟨rfl,hP⟩;have HP:=bE hP;clear hP;go_wp2;go_ret;exact⟨rfl,w3,aN Bv,aN HP⟩
end
theorem oU (d:N.iY)(of:List (List UInt8))(into:Option (List UInt8))(h0:of.any (λb=>([]:List UInt8)==b)=aV):(N.turns (N.kinds d) of into).isSome=of.any λb=>kK d==b:=by
 obtain⟨b,os⟩:=d;cases os with
 |nil=>
  show(N.turns [] of into).isSome=of.any λb=>([]:List UInt8)==b
  rw[h0];rfl
 |cons o t=>
  unfold N.turns;rw[N.Sc,List.getLast?_append,List.getLast?_singleton];simp only[Option.some_or];show(if of.any (λb=>o.kind==b)=aX then _ else aC).isSome=of.any λb=>o.kind==b
  split
  ·rename_i h
   rw[h];rfl
  ·rename_i h
   rw[Bool.not_eq_true] at h;rw[h];rfl
theorem PM (B:Nat)(w:aY)(dd:Nat)(vD vP:aG)(pv:List aG)(wv:List Own)(d:N.iY)(h:dM B w dd vD vP pv wv d)(s:List UInt8)(hb:L.fJ s=aX):
 bH aQ 133 #[aK (aE ⟨dd,0,aC⟩),aI ⟨s.toArray⟩] w λr w' =>r=aM (bB (N.stands (N.kinds d) s).isSome)/\bA w.heap.size w w' :=by
 have same:∀{r:Ending} {w' :aY} {v:Bool},r=aM (bB v)/\w' =w->r=aM (bB v)/\bA w.heap.size w w' :=λhh=>⟨hh.1,by rw[hh.2];exact bF _ _⟩
 have nM:=Vr B w dd vD vP pv wv d h;have ba:=Ts B w dd vD vP pv wv d h;unfold L.fJ at hb;simp only[L.wR,List.any_cons,List.any_nil,Bool.or_false,dY,beq_iff_eq] at hb;rcases hb with rfl|rfl|rfl|rfl|rfl|rfl|rfl|rfl|rfl|rfl|rfl|rfl|rfl|rfl|rfl|rfl|rfl|rfl|rfl|rfl|rfl
 ·exact(X7 w dd).mono λr w' hh=>same hh
 ·exact(LY w dd).mono λr w' hh=>same hh
 ·exact(Um w dd).mono λr w' hh=>same hh
 ·exact(Us w dd).mono λr w' hh=>same hh
 ·exact(D4 w dd).mono λr w' hh=>same hh
 ·exact(C7 w dd).mono λr w' hh=>same hh
 ·exact(KU w dd).mono λr w' hh=>same hh
 ·exact(Xr w dd).mono λr w' hh=>same hh
 ·exact(XZ w dd).mono λr w' hh=>same hh
 ·have:(N.stands (N.kinds d) N.fA).isSome=(kK d==[105,102]):=by
   show(N.turns (N.kinds d) [N.mM] (aE N.fA)).isSome=_;rw[oU d [N.mM] (aE N.fA) rfl];simp[N.mM]
  rw[show([101,108,115,101]:List UInt8)=N.fA from rfl,this];exact KT w dd (kK d) _ (bE nM)
 ·have:(N.stands (N.kinds d) N.iQ).isSome=(kK d==[105,102]||kK d==[101,108,115,101]):=by
   show(N.turns (N.kinds d) [N.mM,N.fA] aC).isSome=_;rw[oU d [N.mM,N.fA] aC rfl];simp[N.mM,N.fA]
  rw[show([116,104,101,110]:List UInt8)=N.iQ from rfl,this];exact JX w dd (kK d) (bE λW hb=>(Vr B W dd vD vP pv wv d (h.below hb)).mono λr w' hh=>⟨hh.1,hb.trans (hh.2.mono hb.size)⟩)
 ·exact(T0 w dd).mono λr w' hh=>same hh
 ·have:(N.stands (N.kinds d) N.jQ).isSome=(kK d==[98,101,103,105,110]):=by
   show(N.turns (N.kinds d) [N.dT] aC).isSome=_;rw[oU d [N.dT] aC rfl];simp[N.dT]
  rw[show([117,110,116,105,108]:List UInt8)=N.jQ from rfl,this];exact Y2 w dd (kK d) _ (bE nM)
 ·have:(N.stands (N.kinds d) N.jW).isSome=(kK d==[98,101,103,105,110]):=by
   show(N.turns (N.kinds d) [N.dT] aC).isSome=_;rw[oU d [N.dT] aC rfl];simp[N.dT]
  rw[show([97,103,97,105,110]:List UInt8)=N.jW from rfl,this];exact U4 w dd (kK d) _ (bE nM)
 ·have:(N.stands (N.kinds d) N.eN).isSome=(kK d==[98,101,103,105,110]):=by
   show(N.turns (N.kinds d) [N.dT] (aE N.eN)).isSome=_;rw[oU d [N.dT] (aE N.eN) rfl];simp[N.dT]
  rw[show([119,104,105,108,101]:List UInt8)=N.eN from rfl,this];exact U0 w dd (kK d) _ (bE nM)
 ·have:(N.stands (N.kinds d) N.gB).isSome=(kK d==[119,104,105,108,101]):=by
   show(N.turns (N.kinds d) [N.eN] aC).isSome=_;rw[oU d [N.eN] aC rfl];simp[N.eN]
  rw[show([114,101,112,101,97,116]:List UInt8)=N.gB from rfl,this];exact H9 w dd (kK d) _ (bE nM)
 ·exact(VS w dd).mono λr w' hh=>same hh
 ·have:(N.stands (N.kinds d) N.eK).isSome=(kK d==[100,111]):=by
   show(N.turns (N.kinds d) [N.iR] aC).isSome=_;rw[oU d [N.iR] aC rfl];simp[N.iR]
  rw[show([108,111,111,112]:List UInt8)=N.eK from rfl,this];exact KN w dd (kK d) _ (bE nM)
 ·have:(N.stands (N.kinds d) N.wI).isSome=decide ((N.kinds d).any (λb=>b==N.iR)=aX):=by
   show(if(N.kinds d).any (λb=>b==N.iR)=aX then aE (N.kinds d) else aC).isSome=_
   split
   ·rename_i h;rw[decide_eq_true h];rfl
   ·rename_i h;rw[decide_eq_false h];rfl
  rw[show([105]:List UInt8)=N.wI from rfl,this];exact(fq w dd _ (bE ba)).mono λr w' hh=>same hh
 ·have:(N.stands (N.kinds d) N.fD).isSome=decide ((N.kinds d).any (λb=>b==N.iR)=aX):=by
   show(if(N.kinds d).any (λb=>b==N.iR)=aX then aE (N.kinds d) else aC).isSome=_
   split
   ·rename_i h;rw[decide_eq_true h];rfl
   ·rename_i h;rw[decide_eq_false h];rfl
  rw[show([108,101,97,118,101]:List UInt8)=N.fD from rfl,this];exact(V8 w dd _ (bE ba)).mono λr w' hh=>same hh
 ·exact(KQ w dd).mono λr w' hh=>same hh
def jY (m:N.cE) (ws:List (List UInt8)) (pos:Nat) (d:N.iY) (s:List UInt8):Int×N.iY×Nat:=
 if L.fJ s=aV then
  match N.iU m s with
  |none=>(2,d,pos)
  |some c=>if 60<=d.body.length then(5,d,pos) else(0,N.add d c,pos)
 else match N.stands (N.kinds d) s with
  |none=>(3,d,pos)
  |some _=>
   if s==[39] then
    (if N.dB m ws[pos+1]? aV≠0 then(4,d,pos)
     else match N.fP m ((ws[pos+1]?).getD []) with
      |none=>(2,d,pos)
      |some k=>if 60<=d.body.length then(5,d,pos) else(0,N.add d ⟨1,1000+k,[]⟩,pos+1))
   else if 60<=d.body.length then(5,d,pos) else(0,N.add d ⟨4,0,s⟩,pos)
structure mJ (w0 w:aY) (mb rb:Nat) (vW vT:aG) (s:L.gJ) (p:Nat):Prop where
 mv:Mv (λk=>k=rb) w0 w
 r:w.heap[rb]?=aE (aU #[aK (aE ⟨mb,0,aC⟩),vW,aH aF p,aH aF s.steps,aH aF s.depth,vT] 67)
variable {w0 w:aY}{mb rb p:Nat}{vO vB vW vS vR vT:aG}{s:L.gJ}
theorem mJ.run (hr:eV w0 mb rb vO vB vW vS vR vT s)(h:mJ w0 w mb rb vW vT s p):eV w mb rb vO vB vW vS vR vT {s with pos:=p}:=by
 have hk:∀k,(kZ mb rb vS vR vT k\/vW.ownBlock=aE k)->k≠rb->w.heap[k]?=w0.heap[k]?:=λk hk jD=>h.mv.block k (hr.lt k hk) jD
 refine⟨(hk mb (.inl (.inl rfl)) (fN hr.m hr.r (by decide))).trans hr.m,h.r,?_,?_,?_,?_,hr.ap,hr.sl,hr.rl,hr.ol,hr.wl,hr.si,hr.ri⟩
 ·exact cK hr.st λk e=>hk k (.inl (.inr (.inr (.inl e)))) λx=>bW hr.st hr.r (by decide) (x▸e)
 ·exact cK hr.Fv λk e=>hk k (.inl (.inr (.inr (.inr (.inl e))))) λx=>bW hr.Fv hr.r (by decide) (x▸e)
 ·exact cK hr.ot λk e=>hk k (.inl (.inr (.inr (.inr (.inr e))))) λx=>bW hr.ot hr.r (by decide) (x▸e)
 ·exact cK hr.wd λk e=>hk k (.inr e) λx=>bW hr.wd hr.r (by decide) (x▸e)
variable {wv:List Own}{all:List N.iM}
theorem mJ.own (hr:eV w0 mb rb vO vB vW vS vR vT s)(ho:jE w0 all wv vO vB)(h:mJ w0 w mb rb vW vT s p):jE w all wv vO vB:=
 ho.kept λk hk=>h.mv.block k (kH hk) λe=>jC hr hk (.inr (.inl e))
variable {w' :aY}
theorem mJ.below (h:mJ w0 w mb rb vW vT s p)(Mc:rb<w0.heap.size)(hb:bA w0.heap.size w w'):mJ w0 w' mb rb vW vT s p:=
 ⟨⟨hb.os.trans h.mv.os,hb.tape.trans h.mv.tape,hb.output.trans h.mv.output,cF h.mv.size hb.size,λk hk hn=>(hb.block k hk).trans (h.mv.block k hk hn)⟩,(hb.block rb Mc).trans h.r⟩
theorem mJ.step (h:mJ w0 w mb rb vW vT s p)(q:Nat)(u:aG)(hu:u=aH aF q):mJ w0 (w.setCell ⟨rb,2,aC⟩ u) mb rb vW vT s q:=by
 subst hu;exact⟨h.mv.setCell (.inl rfl) _,bV h.r 2 _⟩
theorem Gg (_:eV w mb rb vO vB vW vS vR vT s)(t:List UInt8)(h:t.length<=1000):(⟨t.toArray⟩:ByteArray).size<=1000:=by
 simpa[ByteArray.size] using h
theorem Zp (w0 w:aY)(mb rb dd:Nat)(vO vB vW vS vR vT vD vP:aG)(pv:List aG)(wv:List Own)(s:L.gJ)(all:List N.iM)(m:N.cE)(hm:m.all=all)(p:Nat)(t:List UInt8)(d:N.iY)(hr:eV w0 mb rb vO vB vW vS vR vT s)(ho:jE w0 all wv vO vB)(Bt:mJ w0 w mb rb vW vT s p)(hd:dM w0.heap.size w dd vD vP pv wv d)(hf:N.Jo d)(Mi:N.DO d)(hp:s.words[p]?=aE t)(ht:t.length<=1000):
 bH aQ 125 #[aK (aE ⟨rb,0,aC⟩),aK (aE ⟨dd,0,aC⟩)] w λr w' =>r=aM (aH aF (jY m s.words p d t).1)/\mJ w0 w' mb rb vW vT s (jY m s.words p d t).2.2/\
  ((jY m s.words p d t).1=0->∃Gz sU rL,dM w0.heap.size w' dd Gz sU rL wv (jY m s.words p d t).2.1):=by
 have Mc:=cC hr.r;have hsz:=Bt.mv.size;have fG:=Bt.run hr;have fK:=Bt.own hr ho;have nV:p<s.words.length:=(bI.1 hp).1;have c0:=cq 0 fG.r rfl;have c2:=cq 2 fG.r rfl;rcases jB hr.wd with ⟨_,h0,_⟩|⟨gW,iD,NJ,_⟩
 ·omega
 subst NJ;have c1:=cq 1 fG.r rfl;have c3:w.cell? ⟨gW,p,aC⟩=aE (aI ⟨t.toArray⟩):=by
  have:=fG.wd.cells (g:=gW) rfl p (mQ t) (by rw[cI,hp];rfl);rwa[fE,dC] at this
 have Et:=Gg hr t ht;have vF:∀{W:aY},bA w.heap.size w W->bA w0.heap.size w W:=λhb=>hb.mono hsz
 have tG:∀W,bA w.heap.size w W->bH aQ 53 #[aK (aE ⟨mb,0,aC⟩),aI ⟨t.toArray⟩] W λr w' =>r=aM (rJ all wv t)/\bA W.heap.size W w' :=λW hb=>by
  have hW:=fG.below hb;have:=Lh W mb ⟨t.toArray⟩ all wv vO vB (aZ hW.m rfl) (fK.below hb);simpa using this
 have Vm:(⟨t.toArray⟩:ByteArray).toList=t:=by rw[Go.ByteArray.toList_eq]
 -- nothing was changed but what is new
 have stay:∀{W:aY},bA w.heap.size w W->mJ w0 W mb rb (aJ (aE ⟨gW,0,aC⟩) s.words.length iD) vT s p:=λhb=>Bt.below Mc (vF hb)
 unfold jY;by_cases hJ:L.fJ t=aV
 ·rw[eJ hJ];have Me:=Gi fK m hm t hJ;have ce:(t==[39])=aV:=by
   rw[beq_eq_false_iff_ne];rintro rfl;cases hJ
  cases zY:N.iU m t with
  |none=>
   rw[zY] at Me;simp only at Me ⊢;refine(fo w mb rb dd gW s.words.length iD p ⟨t.toArray⟩ Et nV c0 c1 c2 c3 (bE λW hb=>by have:=tG W hb;rw[Me] at this;exact this)).mono λr w' hh=>⟨hh.1,stay hh.2,λe=>by cases e⟩
  |some c=>
   rw[zY] at Me;simp only at Me ⊢;obtain⟨hv,Gx,xF⟩:=Me;obtain⟨T,v,Tg,r5⟩:=Tv 0 xF fK.len Gx;rw[hv,Tg] at tG;by_cases Mo:60<=d.body.length
   ·rw[eJ Mo];have TP:d.body.length=60:=by have:=hd.small;omega
    refine(E8 w mb rb dd gW s.words.length iD p ⟨t.toArray⟩ Et nV c0 c1 c2 c3 (by rw[Vm];exact ce) T v r5 5 (λW w' =>w' =W) (bE tG) (bE λW hb=>?_)).mono ?_
    ·obtain⟨aD,cD,CZ,_,_⟩:=cU hd.body;have bc:=hd.below hb;rw[CZ,TP] at bc;exact Pf W dd cD aD _ (aZ bc.blk rfl)
    ·rintro r w' ⟨rfl,W,hb,rfl⟩;exact⟨rfl,stay hb,λe=>by cases e⟩
   ·rw[dL Mo];refine(E8 w mb rb dd gW s.words.length iD p ⟨t.toArray⟩ Et nV c0 c1 c2 c3 (by rw[Vm];exact ce) T v r5 0 (λW w' =>∃Gz,dM w0.heap.size w' dd Gz vP pv wv ⟨d.body++[(c,0)],d.opens⟩/\bA w0.heap.size W w') (bE tG) (bE λW hb=>?_)).mono ?_
    ·exact Vy w0.heap.size W dd vD vP pv wv d (c,0) T v Tg r5 (hd.below hb) (by omega)
    ·rintro r w' ⟨rfl,W,hb,Gz,FW,Ew⟩;refine⟨rfl,Bt.below Mc ((vF hb).trans Ew),λ_=>⟨Gz,vP,pv,?_⟩⟩;have uN:N.add d c=⟨d.body++[(c,0)],d.opens⟩:=dL Gx;rw[uN];exact FW
 ·rw[dL hJ];have hJ:L.fJ t=aX:=by simpa using hJ
  have pL:rJ all wv t=bO 134 (aI ⟨t.toArray⟩):=eJ hJ;rw[pL] at tG;have Jt:∀W,bA w.heap.size w W->bH aQ 133 #[aK (aE ⟨dd,0,aC⟩),aI ⟨t.toArray⟩] W λr w' =>r=aM (bB (N.stands (N.kinds d) t).isSome)/\bA W.heap.size W w' :=λW hb=>PM w0.heap.size W dd vD vP pv wv d (hd.below hb) t hJ
  cases jT:N.stands (N.kinds d) t with
  |none=>
   rw[jT] at Jt;exact(fj w mb rb dd gW s.words.length iD p ⟨t.toArray⟩ Et nV c0 c1 c2 c3 (bE tG) (bE Jt)).mono λr w' hh=>⟨hh.1,stay hh.2,λe=>by cases e⟩
  |some o1=>
   rw[jT] at Jt;simp only;by_cases Jy:(t==[39])=aX
   ·rw[eJ Jy];have lQ:∀W,bA w.heap.size w W->bH aQ 113 #[aK (aE ⟨rb,0,aC⟩)] W λr w' =>r=aM (bC #[(Ld all wv s.words p).1,aH aF (Ld all wv s.words p).2])/\bA W.heap.size W w' :=λW hb=>Ga W mb rb vO vB _ vS vR vT wv {s with pos:=p} all (fG.below hb) (fK.below hb) nV
    have jD:N.dB m s.words[p+1]? aV=N.dB (⟨all,[],[],[],0⟩:N.cE) s.words[p+1]? aV:=by
     unfold N.dB;cases s.words[p+1]? with
     |none=>rfl
     |some x=>simp
    have hnw:N.fP m ((s.words[p+1]?).getD [])=N.eS all ((s.words[p+1]?).getD []) all.length:=by
     unfold N.fP;rw[hm]
    rw[jD,hnw];unfold Ld at lQ;by_cases he:N.dB (⟨all,[],[],[],0⟩:N.cE) s.words[p+1]? aV≠0
    ·simp only[eJ he] at lQ;rw[eJ he];refine(Oa w mb rb dd gW s.words.length iD p ⟨t.toArray⟩ Et nV c0 c1 c2 c3 (by rw[Vm];exact Jy) 4 (λW w' =>bA W.heap.size W w') (bE tG) (bE Jt) (bE λW hb=>Fg W rb dd _ 4 rfl _ (bE (lQ W hb)))).mono ?_;rintro r w' ⟨rfl,W,hb,Ew⟩;exact⟨rfl,stay (hb.trans (Ew.mono hb.size)),λe=>by cases e⟩
    ·simp only[dL he] at lQ;rw[dL he];cases hk:N.eS all ((s.words[p+1]?).getD []) all.length with
     |none=>
      rw[hk] at lQ;simp only at lQ ⊢;refine(Oa w mb rb dd gW s.words.length iD p ⟨t.toArray⟩ Et nV c0 c1 c2 c3 (by rw[Vm];exact Jy) 2 (λW w' =>bA W.heap.size W w') (bE tG) (bE Jt) (bE λW hb=>Fg W rb dd _ 2 rfl _ (bE (lQ W hb)))).mono ?_;rintro r w' ⟨rfl,W,hb,Ew⟩;exact⟨rfl,stay (hb.trans (Ew.mono hb.size)),λe=>by cases e⟩
     |some k=>
      rw[hk] at lQ;simp only at lQ ⊢;obtain⟨Hd,e,UN,_,Ss⟩:=mN all _ _ _ hk;obtain⟨o,FZ⟩:∃o,wv[k]?=aE o:=⟨_,bL (by rw[ho.len];exact Hd)⟩
      have hv:mE wv (aE k)=iW o:=by unfold mE;rw[Option.bind_some,FZ];rfl
      have hold:=ho.qU;have hnin:dQ (1000+(k:Int)):=⟨by omega,by omega⟩
      have hcv:fB wv ((⟨1,1000+(k:Int),[]⟩:N.Cell),0)=bO 117 (aH aF (1000+(k:Int))):=rfl;have hhead:∀W,bA w.heap.size w W->uZ W o e.name (1000+(k:Int)):=λW hb=>((fK.below hb).tA k e o UN FZ (jX Ss)).head
      obtain⟨T,v,Tg⟩:=vZ o;have hmeth:∀W,bA w.heap.size w W->∀F:Nat,(method (F+1) T v "Token").run aQ W=.ok (65,bM #[aI ⟨e.name.toArray⟩,aH aF (1000+(k:Int))]) W:=λW hb F=>by
       obtain⟨T',v',h1,_,h2⟩:=pG (hhead W hb);rw[Tg] at h1;injection h1 with h1 h3;subst h1 h3;exact h2 F
      rw[hv,Tg] at lQ;have dr:∀W,bA w.heap.size w W->bH aQ 113 #[aK (aE ⟨rb,0,aC⟩)] W λr w' =>r=aM (bC #[bO T v,aH aF 0])/\(∀F:Nat,(method (F+1) T v "Token").run aQ w' =.ok (65,bM #[aI ⟨e.name.toArray⟩,aH aF (1000+(k:Int))]) w')/\bA w.heap.size w w' :=λW hb=>(lQ W hb).mono λr w' hh=>⟨hh.1,hmeth w' (hb.trans (hh.2.mono hb.size)),hb.trans (hh.2.mono hb.size)⟩
      by_cases Mo:60<=d.body.length
      ·rw[eJ Mo];have TP:d.body.length=60:=by have:=hd.small;omega
       refine(Oa w mb rb dd gW s.words.length iD p ⟨t.toArray⟩ Et nV c0 c1 c2 c3 (by rw[Vm];exact Jy) 5 (λW w' =>bA w.heap.size w w') (bE tG) (bE Jt) (bE λW hb=>?_)).mono ?_
       ·refine(Dg W rb dd p T v ⟨e.name.toArray⟩ (1000+(k:Int)) 5 (λw' =>bA w.heap.size w w') (λw' =>bA w.heap.size w w') (by have:=hr.wl;omega) (bE (dr W hb)) (bE λw1 W1 fF eD=>?_)).mono ?_
        ·have EQ:bA w.heap.size w W1:=fF.trans (eD.mono fF.size);obtain⟨aD,cD,CZ,_,_⟩:=cU hd.body;have bc:=hd.below EQ;rw[CZ,TP] at bc;refine(Pf W1 dd cD aD _ (aZ bc.blk rfl)).mono λr w' hh=>⟨hh.1,?_,?_,?_⟩
         ·rw[hh.2];exact aZ (fG.below EQ).r rfl
         ·rw[hh.2];exact bG 2 (fG.below EQ).r
         ·rw[hh.2];exact EQ
        ·rintro r w' ⟨rfl,W1,hq,⟨_,rfl⟩|⟨h5,_⟩⟩
         ·exact⟨rfl,hq⟩
         ·cases h5
       ·rintro r w' ⟨rfl,W,_,Ew⟩;exact⟨rfl,stay Ew,λe=>by cases e⟩
      ·rw[dL Mo];refine(Oa w mb rb dd gW s.words.length iD p ⟨t.toArray⟩ Et nV c0 c1 c2 c3 (by rw[Vm];exact Jy) 0 (λW w' =>∃W1 Gz,dM w0.heap.size W1 dd Gz vP pv wv ⟨d.body++[(⟨1,1000+(k:Int),[]⟩,0)],d.opens⟩/\bA w0.heap.size w W1/\w' =W1.setCell ⟨rb,2,aC⟩ (aH aF ((p:Int)+1))) (bE tG) (bE Jt) (bE λW hb=>?_)).mono ?_
       ·refine(Dg W rb dd p T v ⟨e.name.toArray⟩ (1000+(k:Int)) 0 (λw' =>bA w.heap.size w w') (λw' =>∃Gz,dM w0.heap.size w' dd Gz vP pv wv ⟨d.body++[(⟨1,1000+(k:Int),[]⟩,0)],d.opens⟩/\bA w0.heap.size w w') (by have:=hr.wl;omega) (bE (dr W hb)) (bE λw1 W1 fF eD=>?_)).mono ?_
        ·have EQ:bA w.heap.size w W1:=fF.trans (eD.mono fF.size);refine(Vy w0.heap.size W1 dd vD vP pv wv d (⟨1,1000+(k:Int),[]⟩,0) _ _ hcv (λW=>Qs _ W) (hd.below EQ) (by omega)).mono ?_;rintro r w' ⟨rfl,Gz,FW,Ew⟩;have kO:bA w0.heap.size w w' :=(vF EQ).trans Ew;have hrd' :=Bt.below Mc kO;exact⟨rfl,aZ hrd'.r rfl,bG 2 hrd'.r,Gz,FW,kO⟩
        ·rintro r w' ⟨rfl,W1,⟨Gz,FW,Ew⟩,⟨h5,_⟩|⟨_,rfl⟩⟩
         ·exact(h5 rfl).elim
         ·exact⟨rfl,W1,Gz,FW,Ew,rfl⟩
       ·rintro r w' ⟨rfl,W,_,W1,Gz,FW,Ew,rfl⟩;refine⟨rfl,(Bt.below Mc Ew).step (p+1) _ (by simp),λ_=>⟨Gz,vP,pv,?_⟩⟩;have uN:N.add d ⟨1,1000+(k:Int),[]⟩=⟨d.body++[(⟨1,1000+(k:Int),[]⟩,0)],d.opens⟩:=dL (show ¬(1:Nat)=4 by decide);rw[uN];refine FW.kept λk' hk' =>bA.heap_setCell _ _ _ _ ?_
        show k' ≠rb;intro hkr;subst hkr;rcases hk' with e1|e1|e1|⟨u,hu,e1⟩
        ·have:=FW.hB;omega
        ·have:=qC FW.body e1;omega
        ·have:=qC FW.opens e1;omega
        ·obtain⟨i,hi⟩:=List.getElem?_of_mem hu;have eQ:i<d.opens.reverse.length:=by
          have:=FW.xP;rw[<-this];exact(bI.1 hi).1
         have:=qC (FW.waits i _ u (bL eQ) hi) e1;omega
   ·rw[dL Jy];have h39' :(t==[39])=aV:=by simpa using Jy
    by_cases Mo:60<=d.body.length
    ·rw[eJ Mo];have TP:d.body.length=60:=by have:=hd.small;omega
     refine(FV w mb rb dd gW s.words.length iD p ⟨t.toArray⟩ Et nV c0 c1 c2 c3 (by rw[Vm];exact h39') 5 (λW w' =>w' =W) (bE tG) (bE Jt) (bE λW hb=>?_)).mono ?_
     ·obtain⟨aD,cD,CZ,_,_⟩:=cU hd.body;have bc:=hd.below hb;rw[CZ,TP] at bc;exact Pf W dd cD aD _ (aZ bc.blk rfl)
     ·rintro r w' ⟨rfl,W,hb,rfl⟩;exact⟨rfl,stay hb,λe=>by cases e⟩
    ·rw[dL Mo];refine(FV w mb rb dd gW s.words.length iD p ⟨t.toArray⟩ Et nV c0 c1 c2 c3 (by rw[Vm];exact h39') 0 (λW w' =>∃Gz sU rL,dM w0.heap.size w' dd Gz sU rL wv (N.add d ⟨4,0,t⟩)/\bA w0.heap.size W w') (bE tG) (bE Jt) (bE λW hb=>?_)).mono ?_
     ·exact Yg w0.heap.size W dd vD vP pv wv d hf Mi t o1 jT (by rintro rfl;exact Jy rfl) (by omega) (hd.below hb)
     ·rintro r w' ⟨rfl,W,hb,Gz,sU,rL,FW,Ew⟩;exact⟨rfl,Bt.below Mc ((vF hb).trans Ew),λ_=>⟨Gz,sU,rL,FW⟩⟩
section
attribute [local go_sem ↓] Go.wp_at_zero Go.wp_at_succ
def ik (rb dd n gW iD:Nat) (Inv:aY->Prop) (mu:aY->Nat) (fU:aG->Int->aY->Prop) (wr:aY):Prop:=
 ∃(p:Nat) (vD:aG) (aD aP:Option Addr) (nb cD k cP:Nat),vD=aJ aD nb cD/\p<=n+1/\wr.cell? ⟨rb,1,aC⟩=aE (aJ (aE ⟨gW,0,aC⟩) n iD)/\wr.cell? ⟨rb,2,aC⟩=aE (aH aF p)/\wr.frozen? ⟨rb,2,aC⟩=aV/\wr.cell? ⟨dd,0,aC⟩=aE vD/\wr.cell? ⟨dd,1,aC⟩=aE (aJ aP k cP)/\
  ((¬p<n/\∀W,bA wr.heap.size wr W->fU (aJ aC 0 0) 3 (W.setCell ⟨rb,2,aC⟩ (aH aF ((n:Int)-1))))\/
   (p<n/\∃t:ByteArray,wr.cell? ⟨gW,p,aC⟩=aE (aI t)/\
    ((t.toList==[59])=aX/\k=0/\(∀W,bA wr.heap.size wr W->fU vD 0 W)\/
     (((t.toList==[59])=aV\/((t.toList==[59])=aX/\((k:Int)==0)=aV))/\∀W,bA wr.heap.size wr W->bH aQ 125 #[aK (aE ⟨rb,0,aC⟩),aK (aE ⟨dd,0,aC⟩)] W λr w' =>∃code,r=aM (aH aF code)/\
      ((code≠0/\fU (aJ aC 0 0) code w')\/(code=0/\∃q:Nat,q<=n/\w'.cell? ⟨rb,2,aC⟩=aE (aH aF q)/\w'.frozen? ⟨rb,2,aC⟩=aV/\Inv (w'.setCell ⟨rb,2,aC⟩ (aH aF ((q:Int)+1)))/\mu (w'.setCell ⟨rb,2,aC⟩ (aH aF ((q:Int)+1)))<mu wr))))))
theorem Uc (w:aY)(rb n gW iD p0:Nat)(Inv:aY->Prop)(mu:aY->Nat)(fU:aG->Int->aY->Prop)(hn:n<=500)(EM:1<=n)(hp0:p0<n)(c2:w.cell? ⟨rb,2,aC⟩=aE (aH aF p0))(f2:w.frozen? ⟨rb,2,aC⟩=aV)(h0:Inv ((w.alloc (aU #[aJ aC 0 0,aJ aC 0 0] 201)).setCell ⟨rb,2,aC⟩ (aH aF ((p0:Int)+2))))(HI:Hid (∀wr,Inv wr->ik rb w.heap.size n gW iD Inv mu fU wr)):
 bH aQ 111 #[aK (aE ⟨rb,0,aC⟩)] w λr w' =>∃v code,r=aM (bC #[v,aH aF code])/\fU v code w' :=by
 have i0:=wi ((p0:Int)+2);have d2:=bJ c2 (aU #[aJ aC 0 0,aJ aC 0 0] 201);have g2:(w.alloc (aU #[aJ aC 0 0,aJ aC 0 0] 201)).frozen? ⟨rb,2,aC⟩=aV:=cY (bU _ _ aC) c2 f2 (by simp);have H0:=bE h0;clear h0;go_enter func111,ntmps111;go_wp2
 go_loopw [5] (λ_ wr=>Inv wr) (λ_ wr=>mu wr)
 case atStart=>exact aN H0
 case round=>
  obtain⟨p,vD,aD,aP,nb,cD,k,cP,rfl,hpn,c1,c2,f2,e0,e1,qI⟩:=aN HI _ hrel;clear hrel;rcases qI with ⟨Og,hP⟩|⟨eQ,t,c3,⟨hq,rfl,hP⟩|⟨hq,gQ⟩⟩
  ·have HP:=bE hP;have k1:¬((p:Int)<(n:Int)):=by omega
   have k2:=wi ((n:Int)-1);clear Og hP;go_wp2
   go_quiet (fail)
   go_wp2;go_ret2;exact⟨_,_,rfl,aN HP _ (lB (bF _ _) _)⟩
  ·have HP:=bE hP;have k1:(p:Int)<(n:Int):=by omega
   have k2:(0:Int)<=(p:Int):=by omega
   clear eQ hP;go_wp2
   go_quiet (fail)
   go_wp2
   go_quiet (fail)
   go_wp2;go_ret2;exact⟨_,_,rfl,aN HP _ (lB (bF _ _) _)⟩
  ·have HC:=bE gQ;have k1:(p:Int)<(n:Int):=by omega
   have k2:(0:Int)<=(p:Int):=by omega
   clear eQ gQ;rcases hq with hq|⟨hq,hk⟩
   all_goals
    go_wp2
    go_quiet (fail)
    go_wp2
    go_quiet (fail)
    go_wp2_with fail
    refine(aN HC _ (lB (bF _ _) _)).mono ?_;rintro e w2 ⟨code,rfl,hh⟩;rcases hh with ⟨hc,hP⟩|⟨rfl,q,hqn,x2,y2,hI,MS⟩
    ·have hcb:(code != 0)=aX:=by rw[bne_iff_ne];exact hc
     have HP:=bE hP;clear hc hP;go_wp2;go_ret2;exact⟨_,_,rfl,aN HP⟩
    ·have UP:=bE (bK hI MS);have k3:=wi ((q:Int)+1);clear hI MS;go_wp2;exact aN UP
end
structure Bs (all:List N.iM) (d:N.iY):Prop where
 Nv:N.Jo d
 deep:N.Deep d
 bulk:N.DO d
 ok:∀c∈N.cells d,lI all all.length c
 small:d.body.length<=60
theorem Vs (all:List N.iM):Bs all ⟨[],[]⟩:=⟨N.TV,N.UV,N.SA,λc hc=>by simp[N.cells] at hc,bZ _⟩
theorem Hi {o:List (List UInt8)}{s:List UInt8}{o1:List (List UInt8)}(h:N.stands o s=aE o1)(ht:s≠[39]):N.inner s=aX:=by
 unfold N.inner;simp only[List.any_cons,List.any_nil,Bool.or_false,dY,beq_iff_eq];unfold N.stands at h;by_cases h1:(s==N.mM||s==N.dT||s==N.iR)=aX
 ·simp only[dY,beq_iff_eq] at h1;rcases h1 with (h1|h1)|h1 <;> simp[h1]
 rw[dL h1] at h;by_cases h2:(s==N.fA)=aX
 ·rw[beq_iff_eq] at h2;simp[h2]
 rw[dL h2] at h;by_cases h3:(s==N.iQ)=aX
 ·rw[beq_iff_eq] at h3;simp[h3]
 rw[dL h3] at h;by_cases h4:(s==N.jQ||s==N.jW)=aX
 ·simp only[dY,beq_iff_eq] at h4;rcases h4 with h4|h4 <;> simp[h4]
 rw[dL h4] at h;by_cases h5:(s==N.eN)=aX
 ·rw[beq_iff_eq] at h5;simp[h5]
 rw[dL h5] at h;by_cases h6:(s==N.gB)=aX
 ·rw[beq_iff_eq] at h6;simp[h6]
 rw[dL h6] at h;by_cases h7:(s==N.eK)=aX
 ·rw[beq_iff_eq] at h7;simp[h7]
 rw[dL h7] at h;by_cases h8:(s==N.wI||s==N.fD)=aX
 ·simp only[dY,beq_iff_eq] at h8;rcases h8 with h8|h8 <;> simp[h8]
 rw[dL h8] at h;by_cases h9:(s==N.kX||s==N.sW||s==[39])=aX
 ·simp only[dY,beq_iff_eq] at h9;rcases h9 with (h9|h9)|h9
  ·simp[h9]
  ·simp[h9]
  ·exact(ht h9).elim
 ·rw[dL h9] at h;cases h
theorem Uu (ho:jE w all wv vO vB)(m:N.cE)(hm:m.all=all)(ws:List (List UInt8))(p:Nat)(d:N.iY)(s:List UInt8)(h:Bs all d)(hz:(jY m ws p d s).1=0):
 Bs all (jY m ws p d s).2.1/\p<=(jY m ws p d s).2.2/\((jY m ws p d s).2.2<ws.length\/(jY m ws p d s).2.2=p):=by
 have plain:∀c,c.kind≠4->lI all all.length c->¬60<=d.body.length->Bs all (N.add d c):=λc hk xF hl=>by
  obtain⟨h1,_,h3⟩:=N.add_plain h.Nv c hk;obtain⟨b1,b2⟩:=N.Je h.bulk c;refine⟨h1,N.Dh h.deep c hk,b1,λx hx=>?_,by rw[b2];omega⟩;rw[h3] at hx;rcases List.mem_append.1 hx with hx|hx
  ·exact h.ok x hx
  ·rw[dE] at hx;rw[hx];exact xF
 unfold jY at hz ⊢;by_cases hJ:L.fJ s=aV
 ·rw[eJ hJ] at hz ⊢;have Me:=Gi ho m hm s hJ;cases zY:N.iU m s with
  |none=>rw[zY] at hz;cases hz
  |some c=>
   rw[zY] at hz Me;simp only at hz Me ⊢;by_cases hl:60<=d.body.length
   ·rw[eJ hl] at hz;cases hz
   ·rw[dL hl];exact⟨plain c Me.2.1 Me.2.2 hl,bD _,.inr rfl⟩
 ·rw[dL hJ] at hz ⊢;cases jT:N.stands (N.kinds d) s with
  |none=>rw[jT] at hz;cases hz
  |some o1=>
   rw[jT] at hz;simp only at hz ⊢;by_cases Jy:(s==[39])=aX
   ·rw[eJ Jy] at hz ⊢;by_cases he:N.dB m ws[p+1]? aV≠0
    ·rw[eJ he] at hz;cases hz
    ·rw[dL he] at hz ⊢;cases hk:N.fP m ((ws[p+1]?).getD []) with
     |none=>rw[hk] at hz;cases hz
     |some k=>
      rw[hk] at hz;simp only at hz ⊢;by_cases hl:60<=d.body.length
      ·rw[eJ hl] at hz;cases hz
      ·rw[dL hl];unfold N.fP at hk;rw[hm] at hk;obtain⟨Hd,_⟩:=mN all _ _ _ hk;have hold:=ho.qU;have nM:dQ (1000+(k:Int)):=⟨by omega,by omega⟩
       refine⟨plain ⟨1,1000+(k:Int),[]⟩ (show(1:Nat)≠4 by decide) (.inl ⟨rfl,nM⟩) hl,by show p<=p+1;omega,?_⟩;show p+1<ws.length\/p+1=p
       left
       rcases Nat.lt_or_ge (p+1) ws.length with hx|hx
       ·exact hx
       ·exfalso;apply he;rw[dZ hx];show(4:Int)≠0;decide
   ·rw[dL Jy] at hz ⊢;by_cases hl:60<=d.body.length
    ·rw[eJ hl] at hz;cases hz
    ·rw[dL hl];have ht:s≠[39]:=λe=>Jy (by rw[e];rfl)
     obtain⟨h1,_,h3⟩:=N.Tc h.Nv s o1 jT ht;obtain⟨b1,b2⟩:=N.Je h.bulk ⟨4,0,s⟩;refine⟨⟨h1,N.P7 h.Nv h.deep s o1 jT ht,b1,λx hx=>?_,by rw[b2];omega⟩,bD _,.inr rfl⟩;rw[h3] at hx;rcases List.mem_append.1 hx with hx|hx
     ·exact h.ok x hx
     ·rw[dE] at hx;rw[hx];exact .inr (.inr (.inr ⟨rfl,Hi jT ht⟩))
theorem Oj (m:N.cE)(ws:List (List UInt8))(f p:Nat)(d:N.iY)(s:List UInt8)(h:Bs all d)(hs:ws[p]?=aE s)(sR:(s==[59])=aV\/d.opens≠[]):
 ((jY m ws p d s).1≠0->(N.reads m ws (f+1) p (N.kinds d) (N.cells d)).2.1=(jY m ws p d s).1/\(N.reads m ws (f+1) p (N.kinds d) (N.cells d)).2.2.1=p/\(jY m ws p d s).2.2=p)/\
 ((jY m ws p d s).1=0->N.reads m ws (f+1) p (N.kinds d) (N.cells d)=N.reads m ws f ((jY m ws p d s).2.2+1) (N.kinds (jY m ws p d s).2.1) (N.cells (jY m ws p d s).2.1)):=by
 have nQ:(N.cells d).length=d.body.length:=N.iH d;have hkne:d.opens≠[]->(N.kinds d).isEmpty=aV:=λjD=>by
  unfold N.kinds;cases ho:d.opens with
  |nil=>exact(jD ho).elim
  |cons o t=>simp
 rw[N.reads];simp only[hs];unfold jY;by_cases ZF:(s==[59])=aX
 ·have hopen:d.opens≠[]:=by
   rcases sR with hh|hh
   ·rw[hh] at ZF;cases ZF
   ·exact hh
  have e1:(if(N.kinds d).isEmpty=aX then(N.cells d,(0:Int),0,p+1) else(N.cells d,3,p,p+1))=(N.cells d,3,p,p+1):=dL (by rw[hkne hopen];exact Bool.false_ne_true);rw[eJ ZF,e1];rw[beq_iff_eq] at ZF;subst ZF;have jT:N.stands (N.kinds d) [59]=aC:=rfl;rw[dL (by decide),jT];exact⟨λ_=>⟨rfl,rfl,rfl⟩,λe=>by cases e⟩
 ·rw[dL ZF];by_cases hJ:L.fJ s=aV
  ·rw[eJ hJ,eJ hJ];cases zY:N.iU m s with
   |none=>exact⟨λ_=>⟨rfl,rfl,rfl⟩,λe=>by cases e⟩
   |some c=>
    simp only;rw[nQ];by_cases hl:60<=d.body.length
    ·rw[eJ hl,eJ hl];exact⟨λ_=>⟨rfl,rfl,rfl⟩,λe=>by cases e⟩
    ·rw[dL hl,dL hl];refine⟨λe=>(e rfl).elim,λ_=>?_⟩;have hk:c.kind≠4:=by
      unfold N.iU at zY;cases hn:N.fP m s with
      |some k=>
       rw[hn] at zY;injection zY with zY;rw[<-zY];show(2:Nat)≠4;decide
      |none=>
       rw[hn] at zY;simp only at zY
       split at zY
       ·injection zY with zY;rw[<-zY];show(3:Nat)≠4;decide
       ·obtain⟨x,_,hx⟩:=Option.map_eq_some_iff.1 zY;rw[<-hx];show(1:Nat)≠4;decide
     obtain⟨_,h2,h3⟩:=N.add_plain h.Nv c hk;show N.reads m ws f (p+1) (N.kinds d) (N.cells d++[c])=N.reads m ws f (p+1) (N.kinds (N.add d c)) (N.cells (N.add d c));rw[h2,h3]
  ·rw[dL hJ,dL hJ];cases jT:N.stands (N.kinds d) s with
   |none=>exact⟨λ_=>⟨rfl,rfl,rfl⟩,λe=>by cases e⟩
   |some o1=>
    simp only;by_cases Jy:(s==[39])=aX
    ·rw[eJ Jy,eJ Jy];have hne4:N.dB m ws[p+1]? aV≠0->N.dB m ws[p+1]? aV=4:=λhe=>by
      unfold N.dB at he ⊢;cases hx:ws[p+1]? with
      |none=>rfl
      |some t=>
       rw[hx] at he;simp only at he ⊢
       split
       ·rfl
       ·rename_i hc
        rw[dL hc,dL (by simp)] at he;exact(he rfl).elim
     by_cases he:N.dB m ws[p+1]? aV≠0
     ·rw[eJ he,eJ he];exact⟨λ_=>⟨hne4 he,rfl,rfl⟩,λe=>by cases e⟩
     ·rw[dL he,dL he];cases hk:N.fP m ((ws[p+1]?).getD []) with
      |none=>exact⟨λ_=>⟨rfl,rfl,rfl⟩,λe=>by cases e⟩
      |some k=>
       simp only;rw[nQ];by_cases hl:60<=d.body.length
       ·rw[eJ hl,eJ hl];exact⟨λ_=>⟨rfl,rfl,rfl⟩,λe=>by cases e⟩
       ·rw[dL hl,dL hl];refine⟨λe=>(e rfl).elim,λ_=>?_⟩;have hs39:s=[39]:=by simpa using Jy
        have be:o1=N.kinds d:=by
         rw[hs39] at jT;have:N.stands (N.kinds d) [39]=aE (N.kinds d):=rfl;rw[this] at jT;injection jT with jT;exact jT.symm
        obtain⟨_,h2,h3⟩:=N.add_plain h.Nv ⟨1,1000+(k:Int),[]⟩ (show(1:Nat)≠4 by decide);show N.reads m ws f (p+2) o1 (N.cells d++[⟨1,1000+(k:Int),[]⟩])=N.reads m ws f (p+1+1) (N.kinds (N.add d ⟨1,1000+(k:Int),[]⟩)) (N.cells (N.add d ⟨1,1000+(k:Int),[]⟩));rw[h2,h3,be]
    ·rw[dL Jy,dL Jy,nQ];by_cases hl:60<=d.body.length
     ·rw[eJ hl,eJ hl];exact⟨λ_=>⟨rfl,rfl,rfl⟩,λe=>by cases e⟩
     ·rw[dL hl,dL hl];refine⟨λe=>(e rfl).elim,λ_=>?_⟩;have ht:s≠[39]:=λe=>Jy (by rw[e];rfl)
      obtain⟨_,h2,h3⟩:=N.Tc h.Nv s o1 jT ht;show N.reads m ws f (p+1) o1 (N.cells d++[⟨4,0,s⟩])=N.reads m ws f (p+1) (N.kinds (N.add d ⟨4,0,s⟩)) (N.cells (N.add d ⟨4,0,s⟩));rw[h2,h3]
def rP (w:aY) (rb:Nat):Nat:=match w.cell? ⟨rb,2,aC⟩ with|some (aH _ p)=>p.toNat|_=>0
theorem Qn (h:mJ w0 w mb rb vW vT s p):rP w rb=p:=by
 have:w.cell? ⟨rb,2,aC⟩=aE (aH aF p):=aZ h.r rfl;unfold rP;rw[this];simp
def Da (w0:aY) (mb rb dd:Nat) (vW vT:aG) (wv:List Own) (s:L.gJ) (all:List N.iM) (res:List N.Cell×Int×Nat×Nat) (v:aG) (code:Int) (w:aY):Prop:=
 code=res.2.1/\(code≠0->mJ w0 w mb rb vW vT s res.2.2.1)/\
  (code=0->∃p d vP pv,res.2.2.2=p+1/\p<s.words.length/\mJ w0 w mb rb vW vT s p/\dM w0.heap.size w dd v vP pv wv d/\Bs all d/\d.opens=[]/\N.cells d=res.1)
theorem Yc (w0:aY)(mb rb:Nat)(vO vB vW vS vR vT:aG)(wv:List Own)(s:L.gJ)(all:List N.iM)(m:N.cE)(hm:m.all=all)(hr:eV w0 mb rb vO vB vW vS vR vT s)(ho:jE w0 all wv vO vB)(hp:s.pos<s.words.length)(hw:∀t∈s.words,t.length<=1000):
 bH aQ 111 #[aK (aE ⟨rb,0,aC⟩)] w0 λr w' =>∃v code,r=aM (bC #[v,aH aF code])/\Da w0 mb rb w0.heap.size vW vT wv s all (N.reads m s.words (s.words.length+1) (s.pos+2) [] []) v code w' :=by
 generalize dJ:N.reads m s.words (s.words.length+1) (s.pos+2) [] []=res;have Mc:=cC hr.r;rcases jB hr.wd with ⟨_,h0,_⟩|⟨gW,iD,NJ,_⟩
 ·omega
 subst NJ
 let Inv:aY->Prop:=λwr=>∃f p d vD vP pv,mJ w0 wr mb rb (aJ (aE ⟨gW,0,aC⟩) s.words.length iD) vT s p/\dM w0.heap.size wr w0.heap.size vD vP pv wv d/\Bs all d/\p<=s.words.length+1/\s.words.length-p<f/\N.reads m s.words f p (N.kinds d) (N.cells d)=res
 refine Uc w0 rb s.words.length gW iD s.pos Inv (λw=>s.words.length+1-rP w rb) (Da w0 mb rb w0.heap.size (aJ (aE ⟨gW,0,aC⟩) s.words.length iD) vT wv s all res) hr.wl (by omega) hp (aZ hr.r rfl) (bG 2 hr.r) ?_ (bE λwr hI=>?_)
 ·have hrd0:mJ w0 (w0.alloc (aU #[aJ aC 0 0,aJ aC 0 0] 201)) mb rb (aJ (aE ⟨gW,0,aC⟩) s.words.length iD) vT s s.pos:=
   ⟨(Mv.refl _ _).alloc _,(bA.heap_alloc _ _ _ Mc).trans hr.r⟩
  have hd0:dM w0.heap.size (w0.alloc (aU #[aJ aC 0 0,aJ aC 0 0] 201)) w0.heap.size (aJ aC 0 0) (aJ aC 0 0) [] wv ⟨[],[]⟩:=
   ⟨bD _,heap_alloc_new w0 _,aY.ownsRow_nil _ _ _ _,aY.ownsRow_nil _ _ _ _,rfl,λi o v h1=>by simp at h1,λi j v u k h1=>by simp at h1,bZ _,bZ _,λo ho=>by simp at ho⟩
  refine⟨s.words.length+1,s.pos+2,⟨[],[]⟩,aJ aC 0 0,aJ aC 0 0,[],hrd0.step (s.pos+2) _ (by simp),?_,Vs all,by omega,by omega,dJ⟩;refine hd0.kept λk hk=>bA.heap_setCell _ _ _ _ (show k≠rb from ?_)
  rintro rfl;rcases hk with e|e|e|⟨v,hv,_⟩
  ·omega
  ·simp[aG.ownBlock] at e
  ·simp[aG.ownBlock] at e
  ·simp at hv
 ·obtain⟨f,p,d,vD,vP,pv,Bt,hd,zC,hpn,hfu,jN⟩:=hI;have fG:=Bt.run hr;have hsz:=Bt.mv.size;obtain⟨aD,cD,CZ,_,_⟩:=cU hd.body;obtain⟨aP,cP,Jx⟩:∃a c,vP=aJ a d.opens.length c:=by
   rcases hd.opens.2 with ⟨h1,h2⟩|⟨g,cap,cur,h1,_⟩
   ·exact⟨aC,0,by rw[h1,h2]⟩
   ·exact⟨_,_,h1⟩
  subst Jx;obtain⟨f',rfl⟩:∃f',f=f' +1:=⟨f-1,by omega⟩
  refine⟨p,vD,aD,aP,d.body.length,cD,d.opens.length,cP,CZ,hpn,aZ fG.r rfl,aZ fG.r rfl,bG 2 fG.r,aZ hd.blk rfl,aZ hd.blk rfl,?_⟩;by_cases eQ:p<s.words.length
  case neg=>
   refine .inl ⟨eQ,λW hb=>?_⟩;have Sx:s.words[p]?=aC:=dZ (by omega);rw[N.reads,Sx] at jN;unfold Da;rw[<-jN];refine⟨rfl,λ_=>?_,λe=>by cases e⟩;refine(Bt.below Mc (hb.mono hsz)).step (s.words.length-1) _ ?_
   congr 1
   omega
  case pos=>
   refine .inr ⟨eQ,?_⟩;obtain⟨t,ht⟩:∃t,s.words[p]?=aE t:=⟨_,bL eQ⟩
   have c3:wr.cell? ⟨gW,p,aC⟩=aE (aI ⟨t.toArray⟩):=by
    have:=fG.wd.cells (g:=gW) rfl p (mQ t) (by rw[cI,ht];rfl);rwa[fE,dC] at this
   have Vm:(⟨t.toArray⟩:ByteArray).toList=t:=by rw[Go.ByteArray.toList_eq]
   refine⟨⟨t.toArray⟩,c3,?_⟩;rw[Vm];by_cases sR:(t==[59])=aX/\d.opens=[]
   ·refine .inl ⟨sR.1,by rw[sR.2];rfl,λW hb=>?_⟩;have Mp:N.kinds d=[]:=by unfold N.kinds;rw[sR.2];rfl
    rw[N.reads,ht] at jN;simp only[sR.1,if_true,Mp] at jN;unfold Da;rw[<-jN];exact⟨rfl,λe=>(e rfl).elim,λ_=>⟨p,d,_,pv,rfl,eQ,Bt.below Mc (hb.mono hsz),hd.below hb,zC,sR.2,rfl⟩⟩
   ·have hs:(t==[59])=aV\/d.opens≠[]:=by
     cases ZF:(t==[59]) with
     |false=>exact .inl rfl
     |true=>exact .inr λe=>sR ⟨ZF,e⟩
    refine .inr ⟨?_,λW hb=>?_⟩
    ·rcases hs with h1|h1
     ·exact .inl h1
     ·cases ZF:(t==[59]) with
      |false=>exact .inl rfl
      |true=>
       refine .inr ⟨rfl,?_⟩;rw[beq_eq_false_iff_ne];have:d.opens.length≠0:=λe=>h1 (dU.1 e)
       omega
    ·have hrdW:=Bt.below Mc (hb.mono hsz);have lC:=Oj m s.words f' p d t zC ht hs;rw[jN] at lC;refine(Zp w0 W mb rb w0.heap.size vO vB _ vS vR vT vD _ pv wv s all m hm p t d hr ho hrdW (hd.below hb) zC.Nv zC.bulk ht (hw t (cG ht))).mono ?_;rintro r w' ⟨rfl,TZ,zO⟩;refine⟨_,rfl,?_⟩;by_cases hz:(jY m s.words p d t).1=0
     ·refine .inr ⟨hz,?_⟩;obtain⟨Vg,hq1,DU⟩:=Uu ho m hm s.words p d t zC hz;obtain⟨Gz,sU,rL,zO⟩:=zO hz;have hbody2:=lC.2 hz;generalize(jY m s.words p d t).2.2=q at*;generalize(jY m s.words p d t).2.1=d' at*;have hqn:q<s.words.length:=by rcases DU with x|x <;> omega
      have hrd3:=TZ.step (q+1) (aH aF ((q:Int)+1)) (by simp);refine⟨q,by omega,aZ TZ.r rfl,bG 2 TZ.r,⟨f',q+1,d',Gz,sU,rL,hrd3,?_,Vg,by omega,by omega,hbody2.symm⟩,?_⟩
      ·refine zO.kept λk hk=>bA.heap_setCell _ _ _ _ (show k≠rb from ?_)
       rintro rfl;rcases hk with e|e|e|⟨v,hv,e⟩
       ·omega
       ·have:=qC zO.body e;omega
       ·have:=qC zO.opens e;omega
       ·obtain⟨i,hi⟩:=List.getElem?_of_mem hv;have hil:i<d'.opens.reverse.length:=by
         rw[<-zO.xP];exact(bI.1 hi).1
        have:=qC (zO.waits i _ v (bL hil) hi) e;omega
      ·show s.words.length+1-rP _ rb<s.words.length+1-rP wr rb;rw[Qn hrd3,Qn Bt];omega
     ·refine .inl ⟨hz,?_⟩;obtain⟨e1,e2,e3⟩:=lC.1 hz;unfold Da;refine⟨e1.symm,λ_=>?_,λe=>(hz e).elim⟩;rw[e2];rw[e3] at TZ;exact TZ
end Go.Proofs.YtgnlokmeohffaaaGreatDoor
