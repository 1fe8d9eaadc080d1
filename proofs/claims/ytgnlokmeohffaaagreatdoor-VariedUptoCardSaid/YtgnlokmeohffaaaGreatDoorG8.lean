/- Parts of the proof: see the last text. -/
import Derived.Lib.SliceRun
import Derived.Test.YtgnlokmeohffaaaGreatDoorG2
namespace Go.Proofs.YtgnlokmeohffaaaGreatDoor
set_option maxRecDepth 100000
set_option maxHeartbeats 3200000
open Option renaming none → aC, some → aE
open Go renaming IntKind.i64 → aF, Value → aG, Value.int → aH, Value.string → aI, Value.slice → aJ, Value.pointer → aK, Ending.returned → aM, Obj.cells → aU, World → aY, Value.tuple → bC, Value.bool → bB, Calls → bH, Value.agg → bM, Value.iface → bO, World.grownBy_alloc → bU, Instr.typeAssert → bY
open Go.Proofs.Tryz renaming prog → aQ
open Bool renaming false → aV, true → aX, or_eq_true → dY
open Go.RowKit renaming Below → bA, Below.refl → bF
open Nat renaming le_refl → bD, zero_le → bZ, le_trans → cF, le_of_lt → cN, zero_add → dC, lt_of_lt_of_le → eC
open List renaming getElem?_eq_some_iff → bI, getElem?_eq_getElem → bL, length_append → bN, getElem?_append_right → bP, getElem?_append_left → bT, mem_of_getElem? → cG, getElem?_map → cI, length_cons → cX, mem_singleton → dE, take_succ_eq_append_getElem → dF, length_map → dO, length_take → dH, not_mem_nil → dR, length_eq_zero_iff → dU, getElem?_eq_none → dZ, mem_cons_self → eF
open And renaming intro → bK
open Tryz
open Go.RowKit
section
attribute [local go_sem ↓] Go.wp_at_zero Go.wp_at_succ
theorem RO:∃i,(aQ).info? 206=aE i/\i.zero=aE (bM #[aH aF 0,aH aF 0])/\i.size=2/\i.bytes=16:=nE (by kernel_rfl)
theorem Z7 (w:aY)(cb rb db:Nat)(x y goal:Int)(pos:Nat)(hxy:y<x)(vL:aG)(r:List (Int×Int))(hr:r.length<=1000)(nM:dQ x/\dQ y)(P:aY->Prop)(h0:w.cell? ⟨cb,0,aC⟩=aE (aK (aE ⟨rb,0,aC⟩)))(H:Hid (bH aQ 114 #[aK (aE ⟨rb,0,aC⟩),aH aF 2] w λe w' =>∃g o c,e=aM (bC #[aJ (aE ⟨g,o,aC⟩) 2 c,aH aF 0])/\w'.cell? ⟨g,o,aC⟩=aE (aH aF x)/\w'.cell? ⟨g,o+1,aC⟩=aE (aH aF y)/\mS w' cb rb db pos vL r/\P w')):
 bH aQ 130 #[aK (aE ⟨cb,0,aC⟩),aH aF goal] w λe w' =>e=aM (aH aF 0)/\∃w1 vL',P w1/\mS w1 cb rb db pos vL r/\mS w' cb rb db pos vL' (r++[(x,y)])/\Mv (λk=>k=cb\/vL.ownBlock=aE k) w1 w' /\dG w1 (λk=>vL.ownBlock=aE k) (λk=>vL'.ownBlock=aE k):=by
 obtain⟨iL,hi,hz,hs,hb⟩:=RO;go_enter func130,ntmps130;go_wp2_with fail
 refine(aN H).mono ?_;rintro e w1 ⟨g,o,c,rfl,c0,c1,gQ,hP⟩;have HP:=bE hP;have HC:=bE gQ;have d3:=cq 3 gQ.c rfl;obtain⟨aL,YA,hvL⟩:∃a c,vL=aJ a r.length c:=by
  rcases gQ.l.2 with ⟨h1,h2⟩|⟨g,cap,cur,h1,_⟩
  ·exact⟨aC,0,by rw[h1,h2]⟩
  ·exact⟨_,_,h1⟩
 subst hvL;have f3:=bG 3 gQ.c;have jD:aE cb≠(aJ aL r.length YA).ownBlock:=λe=>by
  obtain⟨_,h'⟩:=cJ gQ.l e.symm;have:=cM gQ.c h'
  revert this
  decide
 clear hP gQ;go_wp2;go_region_held3 (λw' =>w'.cell? ⟨g,o,aC⟩=aE (aH aF x)/\w'.cell? ⟨g,o+1,aC⟩=aE (aH aF y)) (first|exact⟨c0,c1⟩|go_keep) (fail)
 have eY:(w1.alloc (aU #[aH aF y,aH aF x] 206)).drew.heap[w1.heap.size]?=aE (aU #[aH aF y,aH aF x] 206):=heap_alloc_new w1 _;go_wp2_with (
  at_builtin
  refine wpList_append_lies _ (by rfl) (.tmp 33) (.tmp 37) 161 (by rfl) 0 206 iL (bM #[aH aF 0,aH aF 0]) 2 16 underlying161 hi hz hs hb rfl (by decide) (aJ aL r.length YA) r.length (lV r) (by rfl) (by exact(aN HC).l.alloc _) ⟨w1.heap.size,0,aC⟩ 1 1 [aH aF y,aH aF x] (by rfl) rfl (aY.news_of_block eY) (λu hu=>by simp at hu;rcases hu with rfl|rfl <;> rfl) (by decide) (by unfold maxLen;omega) (by omega) (bZ _) _ rfl ?_;intro g3 iG w3 jM dK qH Cc;have dK:(w1.alloc (aU #[aH aF y,aH aF x] 206)).grownBy w3 (aJ aL r.length YA).ownBlock:=⟨dK.os,dK.tape,dK.output,dK.size,dK.block⟩
  have e3:(w1.alloc (aU #[aH aF y,aH aF x] 206)).cell? ⟨cb,3,aC⟩=aE (aJ aL r.length YA):=bJ d3 _;have f4:(w1.alloc (aU #[aH aF y,aH aF x] 206)).frozen? ⟨cb,3,aC⟩=aV:=cY (bU w1 _ aC) d3 f3 (by simp);have e5:=dK.cell e3 jD;have f5:=cY dK e3 f4 jD;have G3:=bE dK;have O3:=bE jM;have A3:=bE qH;clear dK jM qH)
 go_ret;have gQ:=aN HC;have hg:=aN G3;have Nq:cb<(w1.alloc (aU #[aH aF y,aH aF x] 206)).heap.size:=by
  have:=cC gQ.c;show cb<(w1.alloc _).heap.size;simp;omega
 have hcb1:(w1.alloc (aU #[aH aF y,aH aF x] 206)).heap[cb]?=w1.heap[cb]?:=bA.heap_alloc w1 _ _ (cC gQ.c);have hcb3:=(hg.block cb Nq jD).trans (hcb1.trans gQ.c);have eR:=bV hcb3 3 (aJ (aE ⟨g3,0,aC⟩) (r.length+1) iG);have hg3cb:g3≠cb:=λe=>by
  obtain⟨_,h'⟩:=cJ (aN O3) (k:=g3) rfl;rw[e] at h';have:=cM hcb3 h'
  revert this
  decide
 refine⟨rfl,w1,aJ (aE ⟨g3,0,aC⟩) (r.length+1) iG,aN HP,gQ,⟨eR,?_,?_⟩,?_,?_⟩
 ·rw[bN,qF];refine cV (aN O3) λk e=>bA.heap_setCell _ _ _ _ ?_
  rw[<-aE.inj (show aE g3=aE k from e)];exact hg3cb
 ·intro p hp;rcases List.mem_append.1 hp with hp|hp
  ·exact gQ.li p hp
  ·rw[dE] at hp;subst hp;exact nM
 ·have kO:bA w1.heap.size w1 (w1.alloc (aU #[aH aF y,aH aF x] 206)):=(bF _ _).alloc (bD _) _;exact((Mv.dS kO _).grown hg λk e=>.inl (.inr e)).setCell (.inl (.inl rfl)) _
 ·intro k hk;rcases aN A3 with e|e
  ·exact .inl (e.trans hk)
  ·right
   have:g3=k:=aE.inj hk;rw[<-this,e];show w1.heap.size<=(w1.alloc _).heap.size;simp
theorem RS (w:aY)(cb g m n cap:Nat)(cur:Array aG)(uH NS goal pos c' :Int)(hn:n=m+1)(hm:m<=1000)(lU:n<=cap)(c3:w.cell? ⟨cb,3,aC⟩=aE (aJ (aE ⟨g,0,aC⟩) n cap))(c2:w.cell? ⟨cb,2,aC⟩=aE (aH aF pos))(f2:w.frozen? ⟨cb,2,aC⟩=aV)(f3:w.frozen? ⟨cb,3,aC⟩=aV)(hg:w.heap[g]?=aE (aU cur 206))(q0:cur[m*2]?=aE (aH aF NS))(q1:cur[m*2+1]?=aE (aH aF uH))(jD:cb≠g)(hc:aF.wrap (NS+1)=c')(eQ:c' < uH):
 bH aQ 131 #[aK (aE ⟨cb,0,aC⟩),aH aF goal] w λr w1=>r=aM (bC #[])/\∃w',w' =w.setCell ⟨g,m*2,aC⟩ (aH aF c')/\w1=(w'.drew.setCell ⟨cb,2,aC⟩ (aH aF goal)):=by
 have g0:w.cell? ⟨g,m*2,aC⟩=aE (aH aF NS):=aZ hg q0;have f0:w.frozen? ⟨g,m*2,aC⟩=aV:=bG _ hg;have i0:aF.wrap ((n:Int)-1)=(m:Int):=wj;have i1:(0:Int)<=(m:Int):=by omega
 have i2:(m:Int)<(n:Int):=by omega
 have i3:(n:Int)<=(cap:Int):=by omega
 have i4:(m:Int)<=(cap:Int):=by omega
 have Jw:=bV hg (m*2) (aH aF c');have Ve:m*2<cur.size:=(Array.getElem?_eq_some_iff.1 q0).1;have d0:(w.setCell ⟨g,m*2,aC⟩ (aH aF c')).cell? ⟨g,m*2,aC⟩=aE (aH aF c'):=aZ Jw (by simp[Ve]);have d1:(w.setCell ⟨g,m*2,aC⟩ (aH aF c')).cell? ⟨g,m*2+1,aC⟩=aE (aH aF uH):=aZ Jw (by rw[Array.getElem?_setIfInBounds_ne (by omega)];exact q1);have d3:=cQ (j:=m*2) (u:=aH aF c') c3 jD;have d2:=cQ (j:=m*2) (u:=aH aF c') c2 jD;have e2:(w.setCell ⟨g,m*2,aC⟩ (aH aF c')).frozen? ⟨cb,2,aC⟩=aV:=by rw[aY.frozen?_of_block (w:=w) (bA.heap_setCell _ _ _ _ jD)];exact f2
 have e3:(w.setCell ⟨g,m*2,aC⟩ (aH aF c')).frozen? ⟨cb,3,aC⟩=aV:=by rw[aY.frozen?_of_block (w:=w) (bA.heap_setCell _ _ _ _ jD)];exact f3
 have Hn:=bE (bK hn (bK hm lU));clear hn hm lU hg Jw q0 q1 Ve jD f2 f3;go_enter func131,ntmps131;go_wp2;generalize R2:w.setCell ⟨g,m*2,aC⟩ (aH aF c')=w2 at*;have Hw2:=bE R2;clear R2 c3 c2 g0 f0;go_region_held3 (λw' =>w'.cell? ⟨cb,3,aC⟩=aE (aJ (aE ⟨g,0,aC⟩) n cap)/\w'.cell? ⟨g,m*2,aC⟩=aE (aH aF c')/\w'.cell? ⟨g,m*2+1,aC⟩=aE (aH aF uH)) (first|exact⟨d3,d0,d1⟩|go_keep) (fail)
 go_wp2;go_end0;exact⟨rfl,w2,(aN Hw2).symm,rfl⟩
theorem LE (w:aY)(cb g m n cap:Nat)(cur:Array aG)(uH NS goal pos c' :Int)(hn:n=m+1)(hm:m<=1000)(lU:n<=cap)(c3:w.cell? ⟨cb,3,aC⟩=aE (aJ (aE ⟨g,0,aC⟩) n cap))(c2:w.cell? ⟨cb,2,aC⟩=aE (aH aF pos))(f2:w.frozen? ⟨cb,2,aC⟩=aV)(f3:w.frozen? ⟨cb,3,aC⟩=aV)(hg:w.heap[g]?=aE (aU cur 206))(q0:cur[m*2]?=aE (aH aF NS))(q1:cur[m*2+1]?=aE (aH aF uH))(jD:cb≠g)(hc:aF.wrap (NS+1)=c')(eQ:¬c' < uH):
 bH aQ 131 #[aK (aE ⟨cb,0,aC⟩),aH aF goal] w λr w1=>r=aM (bC #[])/\∃w',w' =w.setCell ⟨g,m*2,aC⟩ (aH aF c')/\w1=(w'.drew.setCell ⟨cb,3,aC⟩ (aJ (aE ⟨g,0,aC⟩) m cap)):=by
 have g0:w.cell? ⟨g,m*2,aC⟩=aE (aH aF NS):=aZ hg q0;have f0:w.frozen? ⟨g,m*2,aC⟩=aV:=bG _ hg;have i0:aF.wrap ((n:Int)-1)=(m:Int):=wj;have i1:(0:Int)<=(m:Int):=by omega
 have i2:(m:Int)<(n:Int):=by omega
 have i3:(n:Int)<=(cap:Int):=by omega
 have i4:(m:Int)<=(cap:Int):=by omega
 have Jw:=bV hg (m*2) (aH aF c');have Ve:m*2<cur.size:=(Array.getElem?_eq_some_iff.1 q0).1;have d0:(w.setCell ⟨g,m*2,aC⟩ (aH aF c')).cell? ⟨g,m*2,aC⟩=aE (aH aF c'):=aZ Jw (by simp[Ve]);have d1:(w.setCell ⟨g,m*2,aC⟩ (aH aF c')).cell? ⟨g,m*2+1,aC⟩=aE (aH aF uH):=aZ Jw (by rw[Array.getElem?_setIfInBounds_ne (by omega)];exact q1);have d3:=cQ (j:=m*2) (u:=aH aF c') c3 jD;have d2:=cQ (j:=m*2) (u:=aH aF c') c2 jD;have e2:(w.setCell ⟨g,m*2,aC⟩ (aH aF c')).frozen? ⟨cb,2,aC⟩=aV:=by rw[aY.frozen?_of_block (w:=w) (bA.heap_setCell _ _ _ _ jD)];exact f2
 have e3:(w.setCell ⟨g,m*2,aC⟩ (aH aF c')).frozen? ⟨cb,3,aC⟩=aV:=by rw[aY.frozen?_of_block (w:=w) (bA.heap_setCell _ _ _ _ jD)];exact f3
 have Hn:=bE (bK hn (bK hm lU));clear hn hm lU hg Jw q0 q1 Ve jD f2 f3;go_enter func131,ntmps131;go_wp2;generalize R2:w.setCell ⟨g,m*2,aC⟩ (aH aF c')=w2 at*;have Hw2:=bE R2;clear R2 c3 c2 g0 f0;go_region_held3 (λw' =>w'.cell? ⟨cb,3,aC⟩=aE (aJ (aE ⟨g,0,aC⟩) n cap)/\w'.cell? ⟨g,m*2,aC⟩=aE (aH aF c')/\w'.cell? ⟨g,m*2+1,aC⟩=aE (aH aF uH)) (first|exact⟨d3,d0,d1⟩|go_keep) (fail)
 go_wp2;go_end0;exact⟨rfl,w2,(aN Hw2).symm,rfl⟩
theorem eo (w:aY)(cb:Nat)(goal code:Int)(P:aY->aY->Prop)(H:Hid (∀W,bA w.heap.size w W->bH aQ 129 #[aK (aE ⟨cb,0,aC⟩),aH aF goal] W λr w' =>r=aM (aH aF code)/\P W w')):
 bH aQ 122 #[aK (aE ⟨cb,0,aC⟩),bM #[aI ⟨#[105,102]⟩,aH aF goal]] w λr w' =>r=aM (aH aF code)/\∃W,bA w.heap.size w W/\P W w' :=by
 go_enter func122,ntmps122;go_wp2_with fail
 refine(aN H _ ((bF _ _).alloc (bD _) _)).mono ?_;rintro e w' ⟨rfl,hP⟩;have HP:=bE hP;clear hP;go_wp2;go_ret;exact⟨rfl,_,(bF _ _).alloc (bD _) _,aN HP⟩
theorem KA (w:aY)(cb:Nat)(goal code:Int)(P:aY->aY->Prop)(H:Hid (∀W,bA w.heap.size w W->bH aQ 129 #[aK (aE ⟨cb,0,aC⟩),aH aF goal] W λr w' =>r=aM (aH aF code)/\P W w')):
 bH aQ 122 #[aK (aE ⟨cb,0,aC⟩),bM #[aI ⟨#[117,110,116,105,108]⟩,aH aF goal]] w λr w' =>r=aM (aH aF code)/\∃W,bA w.heap.size w W/\P W w' :=by
 go_enter func122,ntmps122;go_wp2_with fail
 refine(aN H _ ((bF _ _).alloc (bD _) _)).mono ?_;rintro e w' ⟨rfl,hP⟩;have HP:=bE hP;clear hP;go_wp2;go_ret;exact⟨rfl,_,(bF _ _).alloc (bD _) _,aN HP⟩
theorem KH (w:aY)(cb:Nat)(goal code:Int)(P:aY->aY->Prop)(H:Hid (∀W,bA w.heap.size w W->bH aQ 129 #[aK (aE ⟨cb,0,aC⟩),aH aF goal] W λr w' =>r=aM (aH aF code)/\P W w')):
 bH aQ 122 #[aK (aE ⟨cb,0,aC⟩),bM #[aI ⟨#[119,104,105,108,101]⟩,aH aF goal]] w λr w' =>r=aM (aH aF code)/\∃W,bA w.heap.size w W/\P W w' :=by
 go_enter func122,ntmps122;go_wp2_with fail
 refine(aN H _ ((bF _ _).alloc (bD _) _)).mono ?_;rintro e w' ⟨rfl,hP⟩;have HP:=bE hP;clear hP;go_wp2;go_ret;exact⟨rfl,_,(bF _ _).alloc (bD _) _,aN HP⟩
theorem Z2 (w:aY)(cb:Nat)(goal code:Int)(P:aY->aY->Prop)(H:Hid (∀W,bA w.heap.size w W->bH aQ 130 #[aK (aE ⟨cb,0,aC⟩),aH aF goal] W λr w' =>r=aM (aH aF code)/\P W w')):
 bH aQ 122 #[aK (aE ⟨cb,0,aC⟩),bM #[aI ⟨#[100,111]⟩,aH aF goal]] w λr w' =>r=aM (aH aF code)/\∃W,bA w.heap.size w W/\P W w' :=by
 go_enter func122,ntmps122;go_wp2_with fail
 refine(aN H _ ((bF _ _).alloc (bD _) _)).mono ?_;rintro e w' ⟨rfl,hP⟩;have HP:=bE hP;clear hP;go_wp2;go_ret;exact⟨rfl,_,(bF _ _).alloc (bD _) _,aN HP⟩
theorem OU (w:aY)(cb:Nat)(goal pos:Int)(c2:w.cell? ⟨cb,2,aC⟩=aE (aH aF pos))(f2:w.frozen? ⟨cb,2,aC⟩=aV):
 bH aQ 122 #[aK (aE ⟨cb,0,aC⟩),bM #[aI ⟨#[101,108,115,101]⟩,aH aF goal]] w λr w' =>r=aM (aH aF 0)/\∃W,bA w.heap.size w W/\w' =W.setCell ⟨cb,2,aC⟩ (aH aF goal):=by
 have d2:=λo=>bJ c2 o
 have e2:∀o,(w.alloc o).frozen? ⟨cb,2,aC⟩=aV:=λo=>cY (bU w o aC) c2 f2 (by simp)
 go_enter func122,ntmps122;go_wp2;go_ret;exact⟨rfl,_,(bF _ _).alloc (bD _) _,rfl⟩
theorem KP (w:aY)(cb:Nat)(goal pos:Int)(c2:w.cell? ⟨cb,2,aC⟩=aE (aH aF pos))(f2:w.frozen? ⟨cb,2,aC⟩=aV):
 bH aQ 122 #[aK (aE ⟨cb,0,aC⟩),bM #[aI ⟨#[97,103,97,105,110]⟩,aH aF goal]] w λr w' =>r=aM (aH aF 0)/\∃W,bA w.heap.size w W/\w' =W.setCell ⟨cb,2,aC⟩ (aH aF goal):=by
 have d2:=λo=>bJ c2 o
 have e2:∀o,(w.alloc o).frozen? ⟨cb,2,aC⟩=aV:=λo=>cY (bU w o aC) c2 f2 (by simp)
 go_enter func122,ntmps122;go_wp2;go_ret;exact⟨rfl,_,(bF _ _).alloc (bD _) _,rfl⟩
theorem S9 (w:aY)(cb:Nat)(goal pos:Int)(c2:w.cell? ⟨cb,2,aC⟩=aE (aH aF pos))(f2:w.frozen? ⟨cb,2,aC⟩=aV):
 bH aQ 122 #[aK (aE ⟨cb,0,aC⟩),bM #[aI ⟨#[114,101,112,101,97,116]⟩,aH aF goal]] w λr w' =>r=aM (aH aF 0)/\∃W,bA w.heap.size w W/\w' =W.setCell ⟨cb,2,aC⟩ (aH aF goal):=by
 have d2:=λo=>bJ c2 o
 have e2:∀o,(w.alloc o).frozen? ⟨cb,2,aC⟩=aV:=λo=>cY (bU w o aC) c2 f2 (by simp)
 go_enter func122,ntmps122;go_wp2;go_ret;exact⟨rfl,_,(bF _ _).alloc (bD _) _,rfl⟩
theorem PH (w:aY)(cb:Nat)(goal:Int):
 bH aQ 122 #[aK (aE ⟨cb,0,aC⟩),bM #[aI ⟨#[116,104,101,110]⟩,aH aF goal]] w λr w' =>r=aM (aH aF 0)/\bA w.heap.size w w' :=by
 go_enter func122,ntmps122;go_wp2;go_ret;exact⟨rfl,(bF _ _).alloc (bD _) _⟩
theorem JE (w:aY)(cb:Nat)(goal:Int):
 bH aQ 122 #[aK (aE ⟨cb,0,aC⟩),bM #[aI ⟨#[98,101,103,105,110]⟩,aH aF goal]] w λr w' =>r=aM (aH aF 0)/\bA w.heap.size w w' :=by
 go_enter func122,ntmps122;go_wp2;go_ret;exact⟨rfl,(bF _ _).alloc (bD _) _⟩
theorem F5 (w:aY)(cb:Nat)(goal:Int)(P:aY->aY->Prop)(H:Hid (∀W,bA w.heap.size w W->bH aQ 131 #[aK (aE ⟨cb,0,aC⟩),aH aF goal] W λr w' =>r=aM (bC #[])/\P W w')):
 bH aQ 122 #[aK (aE ⟨cb,0,aC⟩),bM #[aI ⟨#[108,111,111,112]⟩,aH aF goal]] w λr w' =>r=aM (aH aF 0)/\∃W,bA w.heap.size w W/\P W w' :=by
 go_enter func122,ntmps122;go_wp2_with fail
 refine(aN H _ ((bF _ _).alloc (bD _) _)).mono ?_;rintro e w' ⟨rfl,hP⟩;have HP:=bE hP;clear hP;go_wp2;go_ret;exact⟨rfl,_,(bF _ _).alloc (bD _) _,aN HP⟩
theorem KJ (w:aY)(cb g m n cap:Nat)(goal pos:Int)(hn:n=m+1)(hm:m<=1000)(lU:n<=cap)(c2:w.cell? ⟨cb,2,aC⟩=aE (aH aF pos))(f2:w.frozen? ⟨cb,2,aC⟩=aV)(c3:w.cell? ⟨cb,3,aC⟩=aE (aJ (aE ⟨g,0,aC⟩) n cap))(f3:w.frozen? ⟨cb,3,aC⟩=aV):
 bH aQ 122 #[aK (aE ⟨cb,0,aC⟩),bM #[aI ⟨#[108,101,97,118,101]⟩,aH aF goal]] w λr w' =>r=aM (aH aF 0)/\∃W,bA w.heap.size w W/\w' =(W.setCell ⟨cb,3,aC⟩ (aJ (aE ⟨g,0,aC⟩) m cap)).setCell ⟨cb,2,aC⟩ (aH aF goal):=by
 have i0:aF.wrap ((n:Int)-1)=(m:Int):=wj;have i1:(0:Int)<=(m:Int):=by omega
 have i4:(m:Int)<=(cap:Int):=by omega
 have i5:(m:Int)<=(n:Int):=by omega
 have d2:=λo=>bJ c2 o
 have d3:=λo=>bJ c3 o
 have e2:∀o,(w.alloc o).frozen? ⟨cb,2,aC⟩=aV:=λo=>cY (bU w o aC) c2 f2 (by simp)
 have e3:∀o,(w.alloc o).frozen? ⟨cb,3,aC⟩=aV:=λo=>cY (bU w o aC) c3 f3 (by simp)
 clear hn hm lU;go_enter func122,ntmps122;go_wp2;go_region_law (fail)
 all_goals (go_wp2;go_ret;exact⟨rfl,(w.alloc (aU #[aI ⟨#[108,101,97,118,101]⟩,aH aF goal] 196)).drew,((bF _ _).alloc (bD _) _).drew,rfl⟩)
theorem gp (w:aY)(cb rb g m n cap:Nat)(goal NS code:Int)(P:aY->aY->Prop)(hn:n=m+1)(hm:m<=1000)(c0:w.cell? ⟨cb,0,aC⟩=aE (aK (aE ⟨rb,0,aC⟩)))(c3:w.cell? ⟨cb,3,aC⟩=aE (aJ (aE ⟨g,0,aC⟩) n cap))(g0:w.cell? ⟨g,m*2,aC⟩=aE (aH aF NS))(H:Hid (∀W,bA w.heap.size w W->bH aQ 62 #[aK (aE ⟨rb,0,aC⟩),aH aF NS] W λr w' =>r=aM (aH aF code)/\(w'.cell? ⟨cb,0,aC⟩=aE (aK (aE ⟨rb,0,aC⟩))/\w'.cell? ⟨cb,3,aC⟩=aE (aJ (aE ⟨g,0,aC⟩) n cap)/\w'.cell? ⟨g,m*2,aC⟩=aE (aH aF NS))/\P W w')):
 bH aQ 122 #[aK (aE ⟨cb,0,aC⟩),bM #[aI ⟨#[105]⟩,aH aF goal]] w λr w' =>r=aM (aH aF code)/\∃W,bA w.heap.size w W/\P W w' :=by
 have i0:aF.wrap ((n:Int)-1)=(m:Int):=wj;have i1:(0:Int)<=(m:Int):=by omega
 have i2:(m:Int)<(n:Int):=by omega
 have d0:=bJ c0 (aU #[aI ⟨#[105]⟩,aH aF goal] 196);have d3:=bJ c3 (aU #[aI ⟨#[105]⟩,aH aF goal] 196);have dg:=bJ g0 (aU #[aI ⟨#[105]⟩,aH aF goal] 196);have fF:bA w.heap.size w (w.alloc (aU #[aI ⟨#[105]⟩,aH aF goal] 196)):=(bF _ _).alloc (bD _) _;clear hn hm c0 c3 g0;go_enter func122,ntmps122;go_wp2;generalize(w.alloc (aU #[aI ⟨#[105]⟩,aH aF goal] 196))=w1 at*;go_region_held3 (λw' =>w'.cell? ⟨cb,0,aC⟩=aE (aK (aE ⟨rb,0,aC⟩))/\w'.cell? ⟨cb,3,aC⟩=aE (aJ (aE ⟨g,0,aC⟩) n cap)/\w'.cell? ⟨g,m*2,aC⟩=aE (aH aF NS)) (first|exact⟨d0,d3,dg⟩|exact(by assumption)|go_keep)
  ((go_at_call 62;refine(aN H _ fF.drew).mono ?_
    rintro e w2 ⟨rfl,⟨d0,d3,dg⟩,hP⟩;have HP:=bE hP;clear hP))
 go_wp2;go_ret;exact⟨rfl,_,fF.drew,aN HP⟩
theorem NW (w:aY)(cb db n cap:Nat)(a:Option Addr)(goal pos:Int)(c1:w.cell? ⟨cb,1,aC⟩=aE (aK (aE ⟨db,0,aC⟩)))(c2:w.cell? ⟨cb,2,aC⟩=aE (aH aF pos))(f2:w.frozen? ⟨cb,2,aC⟩=aV)(e2:w.cell? ⟨db,2,aC⟩=aE (aJ a n cap)):
 bH aQ 122 #[aK (aE ⟨cb,0,aC⟩),bM #[aI ⟨#[101,120,105,116]⟩,aH aF goal]] w λr w' =>r=aM (aH aF 0)/\∃W,bA w.heap.size w W/\w' =W.setCell ⟨cb,2,aC⟩ (aH aF n):=by
 have d1:=λo=>bJ c1 o
 have d2:=λo=>bJ c2 o
 have dd:=λo=>bJ e2 o
 have e2:∀o,(w.alloc o).frozen? ⟨cb,2,aC⟩=aV:=λo=>cY (bU w o aC) c2 f2 (by simp)
 go_enter func122,ntmps122;go_wp2;go_ret;exact⟨rfl,_,(bF _ _).alloc (bD _) _,rfl⟩
theorem J5 (w:aY)(cb rb db:Nat)(goal code:Int)(P:aY->aY->Prop)(c0:w.cell? ⟨cb,0,aC⟩=aE (aK (aE ⟨rb,0,aC⟩)))(c1:w.cell? ⟨cb,1,aC⟩=aE (aK (aE ⟨db,0,aC⟩)))(H:Hid (∀W,bA w.heap.size w W->bH aQ 64 #[aK (aE ⟨rb,0,aC⟩),aK (aE ⟨db,0,aC⟩)] W λr w' =>r=aM (aH aF code)/\(w'.cell? ⟨cb,0,aC⟩=aE (aK (aE ⟨rb,0,aC⟩))/\w'.cell? ⟨cb,1,aC⟩=aE (aK (aE ⟨db,0,aC⟩)))/\P W w')):
 bH aQ 122 #[aK (aE ⟨cb,0,aC⟩),bM #[aI ⟨#[114,101,99,117,114,115,101]⟩,aH aF goal]] w λr w' =>r=aM (aH aF code)/\∃W,bA w.heap.size w W/\P W w' :=by
 have d0:=bJ c0 (aU #[aI ⟨#[114,101,99,117,114,115,101]⟩,aH aF goal] 196);have d1:=bJ c1 (aU #[aI ⟨#[114,101,99,117,114,115,101]⟩,aH aF goal] 196);have fF:bA w.heap.size w (w.alloc (aU #[aI ⟨#[114,101,99,117,114,115,101]⟩,aH aF goal] 196)):=(bF _ _).alloc (bD _) _;clear c0 c1;go_enter func122,ntmps122;go_wp2;generalize(w.alloc (aU #[aI ⟨#[114,101,99,117,114,115,101]⟩,aH aF goal] 196))=w1 at*;go_region_held3 (λw' =>w'.cell? ⟨cb,0,aC⟩=aE (aK (aE ⟨rb,0,aC⟩))/\w'.cell? ⟨cb,1,aC⟩=aE (aK (aE ⟨db,0,aC⟩))) (first|exact⟨d0,d1⟩|exact(by assumption)|go_keep)
  ((go_at_call 64;refine(aN H _ fF.drew).mono ?_
    rintro e w2 ⟨rfl,⟨d0,d1⟩,hP⟩;have HP:=bE hP;clear hP))
 go_wp2;go_ret;exact⟨rfl,_,fF.drew,aN HP⟩
theorem Y3 (v:aG)(W:aY):(bY (bO 117 v) 107 196 aX).run aQ W=.ok (bC #[bM #[aI ⟨#[]⟩,aH aF 0],bB aV]) W:=by kernel_rfl
theorem OY (v:aG)(W:aY):(bY (bO 120 v) 107 196 aX).run aQ W=.ok (bC #[bM #[aI ⟨#[]⟩,aH aF 0],bB aV]) W:=by kernel_rfl
theorem RB (v:aG)(W:aY):(bY (bO 122 v) 107 196 aX).run aQ W=.ok (bC #[bM #[aI ⟨#[]⟩,aH aF 0],bB aV]) W:=by kernel_rfl
theorem PY (v:aG)(W:aY):(bY (bO 124 v) 107 196 aX).run aQ W=.ok (bC #[bM #[aI ⟨#[]⟩,aH aF 0],bB aV]) W:=by kernel_rfl
theorem OA (v:aG)(W:aY):(bY (bO 130 v) 107 196 aX).run aQ W=.ok (bC #[bM #[aI ⟨#[]⟩,aH aF 0],bB aV]) W:=by kernel_rfl
theorem OT (v:aG)(W:aY):(bY (bO 132 v) 107 196 aX).run aQ W=.ok (bC #[bM #[aI ⟨#[]⟩,aH aF 0],bB aV]) W:=by kernel_rfl
theorem FP (v:aG)(W:aY):(bY (bO 196 v) 107 196 aX).run aQ W=.ok (bC #[v,bB aX]) W:=by kernel_rfl
theorem V9 (w:aY)(cb rb:Nat)(code:Int)(hc:(code != 0)=aX)(P:aY->Prop)(c0:w.cell? ⟨cb,0,aC⟩=aE (aK (aE ⟨rb,0,aC⟩)))(H:Hid (bH aQ 51 #[aK (aE ⟨rb,0,aC⟩)] w λr w' =>r=aM (aH aF code)/\P w')):
 bH aQ 108 #[aK (aE ⟨cb,0,aC⟩)] w λr w' =>r=aM (aH aF code)/\P w' :=by
 go_enter func108,ntmps108;go_wp2_with fail
 refine(aN H).mono ?_;rintro e w' ⟨rfl,hP⟩;have HP:=bE hP;clear hP;go_wp2;go_ret;exact⟨rfl,aN HP⟩
theorem JD (w:aY)(cb rb db g n cap pos:Nat)(nm:ByteArray)(goal:Int)(Q:aY->Prop)(P:aY->Int->aY->Prop)(sF:pos<n)(hn:n<=60)(c0:w.cell? ⟨cb,0,aC⟩=aE (aK (aE ⟨rb,0,aC⟩)))(H:Hid (bH aQ 51 #[aK (aE ⟨rb,0,aC⟩)] w λr w' =>r=aM (aH aF 0)/\(w'.cell? ⟨cb,0,aC⟩=aE (aK (aE ⟨rb,0,aC⟩))/\w'.cell? ⟨cb,1,aC⟩=aE (aK (aE ⟨db,0,aC⟩))/\w'.cell? ⟨cb,2,aC⟩=aE (aH aF pos)/\w'.frozen? ⟨cb,2,aC⟩=aV/\w'.cell? ⟨db,2,aC⟩=aE (aJ (aE ⟨g,0,aC⟩) n cap)/\w'.cell? ⟨g,pos,aC⟩=aE (bO 196 (bM #[aI nm,aH aF goal])))/\Q w'))(HD:Hid (∀w1 W,Q w1->bA w1.heap.size (w1.setCell ⟨cb,2,aC⟩ (aH aF ((pos:Int)+1))) W->bH aQ 122 #[aK (aE ⟨cb,0,aC⟩),bM #[aI nm,aH aF goal]] W λr w' =>∃code,r=aM (aH aF code)/\P w1 code w')):
 bH aQ 108 #[aK (aE ⟨cb,0,aC⟩)] w λr w' =>∃code,r=aM (aH aF code)/\∃w1,Q w1/\P w1 code w' :=by
 have k0:(0:Int)<=(pos:Int):=by omega
 have k1:(pos:Int)<(n:Int):=by omega
 have k2:=wi ((pos:Int)+1);have r5:=FP (bM #[aI nm,aH aF goal]);go_enter func108,ntmps108;go_wp2_with fail
 refine(aN H).mono ?_;rintro e w1 ⟨rfl,⟨c0,c1,c2,f2,e2,eg⟩,hQ⟩;have HQ:=bE hQ;clear hQ;go_wp2;go_region_held3 (λw' =>w'.cell? ⟨cb,1,aC⟩=aE (aK (aE ⟨db,0,aC⟩))/\w'.cell? ⟨cb,2,aC⟩=aE (aH aF pos)/\w'.cell? ⟨db,2,aC⟩=aE (aJ (aE ⟨g,0,aC⟩) n cap)/\w'.cell? ⟨g,pos,aC⟩=aE (bO 196 (bM #[aI nm,aH aF goal]))) (first|exact⟨c1,c2,e2,eg⟩|go_keep) (fail)
 go_wp2_with fail
 refine(aN HD w1 _ (aN HQ) ?_).mono ?_
 ·first
   |exact(bF _ (w1.setCell ⟨cb,2,aC⟩ (aH aF ((pos:Int)+1)))).drew
   |exact((bF w1.heap.size (w1.setCell ⟨cb,2,aC⟩ (aH aF ((pos:Int)+1)))).alloc (by simp[aY.setCell]) _).drew
   |exact((bF w1.heap.size (w1.setCell ⟨cb,2,aC⟩ (aH aF ((pos:Int)+1)))).drew.alloc (by simp[aY.setCell]) _)
 rintro e w' ⟨code,rfl,hP⟩;have HP:=bE hP;clear hP;go_wp2;go_ret;exact⟨code,rfl,w1,aN HQ,aN HP⟩
theorem NT (w:aY)(cb rb db g n cap pos:Nat)(T:TypeId)(v:aG)(r5:∀W,(bY (bO T v) 107 196 aX).run aQ W=.ok (bC #[bM #[aI ⟨#[]⟩,aH aF 0],bB aV]) W)(Q:aY->Prop)(P:aY->Int->aY->Prop)(sF:pos<n)(hn:n<=60)(c0:w.cell? ⟨cb,0,aC⟩=aE (aK (aE ⟨rb,0,aC⟩)))(H:Hid (bH aQ 51 #[aK (aE ⟨rb,0,aC⟩)] w λr w' =>r=aM (aH aF 0)/\(w'.cell? ⟨cb,0,aC⟩=aE (aK (aE ⟨rb,0,aC⟩))/\w'.cell? ⟨cb,1,aC⟩=aE (aK (aE ⟨db,0,aC⟩))/\w'.cell? ⟨cb,2,aC⟩=aE (aH aF pos)/\w'.frozen? ⟨cb,2,aC⟩=aV/\w'.cell? ⟨db,2,aC⟩=aE (aJ (aE ⟨g,0,aC⟩) n cap)/\w'.cell? ⟨g,pos,aC⟩=aE (bO T v))/\Q w'))(HD:Hid (∀w1 W,Q w1->bA w1.heap.size (w1.setCell ⟨cb,2,aC⟩ (aH aF ((pos:Int)+1))) W->bH aQ 52 #[aK (aE ⟨rb,0,aC⟩),bO T v] W λr w' =>∃code,r=aM (aH aF code)/\P w1 code w')):
 bH aQ 108 #[aK (aE ⟨cb,0,aC⟩)] w λr w' =>∃code,r=aM (aH aF code)/\∃w1,Q w1/\P w1 code w' :=by
 have k0:(0:Int)<=(pos:Int):=by omega
 have k1:(pos:Int)<(n:Int):=by omega
 have k2:=wi ((pos:Int)+1)
 skip
 go_enter func108,ntmps108;go_wp2_with fail
 refine(aN H).mono ?_;rintro e w1 ⟨rfl,⟨c0,c1,c2,f2,e2,eg⟩,hQ⟩;have HQ:=bE hQ;clear hQ;go_wp2;go_region_held3 (λw' =>w'.cell? ⟨cb,1,aC⟩=aE (aK (aE ⟨db,0,aC⟩))/\w'.cell? ⟨cb,2,aC⟩=aE (aH aF pos)/\w'.cell? ⟨db,2,aC⟩=aE (aJ (aE ⟨g,0,aC⟩) n cap)/\w'.cell? ⟨g,pos,aC⟩=aE (bO T v)) (first|exact⟨c1,c2,e2,eg⟩|go_keep) (fail)
 go_wp2_with fail
 refine(aN HD w1 _ (aN HQ) ?_).mono ?_
 ·first
   |exact(bF _ (w1.setCell ⟨cb,2,aC⟩ (aH aF ((pos:Int)+1)))).drew
   |exact((bF w1.heap.size (w1.setCell ⟨cb,2,aC⟩ (aH aF ((pos:Int)+1)))).alloc (by simp[aY.setCell]) _).drew
   |exact((bF w1.heap.size (w1.setCell ⟨cb,2,aC⟩ (aH aF ((pos:Int)+1)))).drew.alloc (by simp[aY.setCell]) _)
 rintro e w' ⟨code,rfl,hP⟩;have HP:=bE hP;clear hP;go_wp2;go_ret;exact⟨code,rfl,w1,aN HQ,aN HP⟩
def ZR (cb:Nat) (Inv:aY->Prop) (mu:aY->Nat) (fU:Int->aY->Prop) (wr:aY):Prop:=
 ∃(db pos n cap:Nat) (a:Option Addr),wr.cell? ⟨cb,1,aC⟩=aE (aK (aE ⟨db,0,aC⟩))/\wr.cell? ⟨cb,2,aC⟩=aE (aH aF pos)/\wr.cell? ⟨db,2,aC⟩=aE (aJ a n cap)/\
  ((¬pos<n/\fU 0 wr.drew)\/(pos<n/\bH aQ 108 #[aK (aE ⟨cb,0,aC⟩)] wr.drew λr w' =>∃code,r=aM (aH aF code)/\((code≠0/\fU code w')\/(code=0/\Inv w' /\mu w' < mu wr))))
theorem PZ (w:aY)(cb:Nat)(Inv:aY->Prop)(mu:aY->Nat)(fU:Int->aY->Prop)(h0:Inv w)(HI:Hid (∀wr,Inv wr->ZR cb Inv mu fU wr)):
 bH aQ 87 #[aK (aE ⟨cb,0,aC⟩)] w λr w' =>∃code,r=aM (aH aF code)/\fU code w' :=by
 go_enter func87,ntmps87;go_wp2
 go_loopw [3] (λ_ wr=>Inv wr) (λ_ wr=>mu wr)
 case atStart=>exact h0
 case round=>
  obtain⟨db,pos,n,cap,a,c1,c2,e2,qI⟩:=aN HI _ hrel;have HR:=bE hrel;clear hrel;rcases qI with ⟨Og,hP⟩|⟨eQ,gQ⟩
  ·have HP:=bE hP;have k1:¬((pos:Int)<(n:Int)):=by omega
   clear Og hP;go_wp2;go_region_held3 (λw' =>w'.cell? ⟨cb,1,aC⟩=aE (aK (aE ⟨db,0,aC⟩))/\w'.cell? ⟨cb,2,aC⟩=aE (aH aF pos)/\w'.cell? ⟨db,2,aC⟩=aE (aJ a n cap)) (first|exact⟨c1,c2,e2⟩|go_keep) (fail)
   go_wp2;go_ret;exact⟨0,rfl,aN HP⟩
  ·have HC:=bE gQ;have k1:(pos:Int)<(n:Int):=by omega
   clear eQ gQ;go_wp2;go_region_held3 (λw' =>w'.cell? ⟨cb,1,aC⟩=aE (aK (aE ⟨db,0,aC⟩))/\w'.cell? ⟨cb,2,aC⟩=aE (aH aF pos)/\w'.cell? ⟨db,2,aC⟩=aE (aJ a n cap)) (first|exact⟨c1,c2,e2⟩|go_keep) (fail)
   go_wp2_with fail
   refine(aN HC).mono ?_;rintro e w2 ⟨code,rfl,hh⟩;rcases hh with ⟨hc,hP⟩|⟨rfl,hI,MS⟩
   ·have hcb:(code != 0)=aX:=by rw[bne_iff_ne];exact hc
    have HP:=bE hP;clear hc hP;go_wp2;go_ret;exact⟨code,rfl,aN HP⟩
   ·have UP:=bE (bK hI MS);clear hI MS;go_wp2;exact aN UP
theorem BC (w:aY)(rb db:Nat)(c4:w.cell? ⟨rb,4,aC⟩=aE (aH aF 12)):
 bH aQ 64 #[aK (aE ⟨rb,0,aC⟩),aK (aE ⟨db,0,aC⟩)] w λr w' =>r=aM (aH aF 13)/\w' =w:=by
 go_enter func64,ntmps64;go_wp2;go_ret;exact⟨rfl,rfl⟩
theorem AD (w:aY)(rb db d:Nat)(hd:d<12)(c4:w.cell? ⟨rb,4,aC⟩=aE (aH aF d))(f4:w.frozen? ⟨rb,4,aC⟩=aV)(P:Int->aY->Prop)(H:Hid (bH aQ 87 #[aK (aE ⟨w.heap.size,0,aC⟩)] ((w.setCell ⟨rb,4,aC⟩ (aH aF ((d:Int)+1))).alloc (aU #[aK (aE ⟨rb,0,aC⟩),aK (aE ⟨db,0,aC⟩),aH aF 0,aJ aC 0 0] 163)) λr w' =>∃code d',r=aM (aH aF code)/\w'.cell? ⟨rb,4,aC⟩=aE (aH aF (d' :Nat))/\1<=d' /\d' <=12/\w'.frozen? ⟨rb,4,aC⟩=aV/\P code (w'.setCell ⟨rb,4,aC⟩ (aH aF ((d' :Int)-1))))):
 bH aQ 64 #[aK (aE ⟨rb,0,aC⟩),aK (aE ⟨db,0,aC⟩)] w λr w' =>∃code,r=aM (aH aF code)/\P code w' :=by
 have k1:((d:Int)==12)=aV:=by rw[beq_eq_false_iff_ne];omega
 have k2:=wi ((d:Int)+1);go_enter func64,ntmps64;go_wp2_with fail
 refine(aN H).mono ?_;rintro e w2 ⟨code,d',rfl,e4,u5,zO,g4,hP⟩;have HP:=bE hP;have k3:=wi ((d' :Int)-1);clear hP;go_wp2;go_ret;exact⟨code,rfl,aN HP⟩
end
def Pi (e:N.iM):N.iM:={e with gone:=aX}
def wJ (all:List N.iM) (k:Nat):List N.iM:=all.take k++(all.drop k).map Pi
theorem ZX (m:N.cE)(k:Nat):N.kF m k={m with all:=wJ m.all k}:=rfl
theorem Oz (all:List N.iM)(k:Nat):(wJ all k).length=all.length:=by
 unfold wJ;rw[bN,dO,dH,List.length_drop];omega
theorem B5 (all:List N.iM)(k j:Nat):(wJ all k)[j]?=(all[j]?).map λe=>if j<k then e else Pi e:=by
 unfold wJ;by_cases h:j<k
 ·by_cases hl:j<all.length
  ·rw[bT (by rw[dH];omega),List.getElem?_take_of_lt h,bL hl];simp[h]
  ·rw[dZ (by rw[bN,dO,dH,List.length_drop];omega),dZ (by omega)];rfl
 ·by_cases hl:j<all.length
  ·rw[bP (by rw[dH];omega),cI,List.getElem?_drop,dH,show k+(j-min k all.length)=j by omega,bL hl];simp[h]
  ·rw[dZ (by rw[bN,dO,dH,List.length_drop];omega),dZ (by omega)];rfl
theorem Ft:∀(all:List N.iM) (wv:List Own) (j:Nat),gV j (all.map Pi) wv=[]
 |[],_,_=>rfl
 |_::_,[],_=>rfl
 |e::t,o::u,j=>by
  rw[List.map_cons,gV,dL (by unfold N.there Pi;simp)];exact Ft t u (j+1)
theorem Au:∀(a b:List N.iM) (u v:List Own) (j:Nat),a.length=u.length->gV j (a++b) (u++v)=gV j a u++gV (j+a.length) b v
 |[],b,[],v,j,_=>rfl
 |[],_,_::_,_,_,h=>by simp at h
 |_::_,_,[],_,_,h=>by simp at h
 |e::t,b,o::u,v,j,h=>by
  have ih:=Au t b u v (j+1) (by simpa using h);rw[List.cons_append,List.cons_append,gV,gV,ih,cX,show j+1+t.length=j+(t.length+1) by omega]
  split <;> rfl
theorem Qv (all:List N.iM)(wv:List Own)(k:Nat)(hl:wv.length=all.length)(hk:k<=all.length):pT all wv=pT (all.take k) (wv.take k)++gV k (all.drop k) (wv.drop k):=by
 have:=Au (all.take k) (all.drop k) (wv.take k) (wv.drop k) 0 (by rw[dH,dH,hl]);rw[List.take_append_drop,List.take_append_drop,dH,dC,Nat.min_eq_left hk] at this;exact this
theorem Wg (all:List N.iM)(wv:List Own)(k:Nat)(hl:wv.length=all.length):pT (wJ all k) wv=pT (all.take k) (wv.take k):=by
 have:=Au (all.take k) ((all.drop k).map Pi) (wv.take k) (wv.drop k) 0 (by rw[dH,dH,hl]);rw[List.take_append_drop,Ft,List.append_nil] at this;exact this
theorem B2 (all:List N.iM)(wv:List Own)(j k:Nat)(hk:j+all.length<=k):∀r∈gV j all wv,r.tok<1000+(k:Int):=λr hr=>by
 obtain⟨i,e,h1,_,_,_,h5⟩:=Ii all wv j r hr;have:=(bI.1 h1).1;omega
theorem K1 (all:List N.iM)(wv:List Own)(j:Nat):∀r∈gV j all wv,1000+(j:Int)<=r.tok:=λr hr=>by
 obtain⟨i,e,_,_,_,_,h5⟩:=Ii all wv j r hr;omega
def cut (os:List r7) (t:Int):Nat->Nat
 |0=>0
 |i+1=>match os[i]? with
  |some r=>if t<=r.tok then cut os t i else i+1
  |none=>cut os t i
theorem BZ (os:List r7)(t:Int):∀i,cut os t i<=i
 |0=>bD _
 |i+1=>by
  have:=BZ os t i;unfold cut;cases os[i]? with
  |none=>simp only;omega
  |some r=>simp only;split <;> omega
theorem Wi (A B:List r7)(t:Int)(hA:∀r∈A,r.tok<t)(hB:∀r∈B,t<=r.tok):∀i,i<=B.length->cut (A++B) t (A.length+i)=A.length
 |0,_=>by
  rw[Nat.add_zero];cases hl:A.length with
  |zero=>rfl
  |succ n=>
   unfold cut;have eQ:n<A.length:=by omega
   rw[bT eQ,bL eQ];simp only;rw[dL (by have:=hA _ (List.getElem_mem eQ);omega)]
 |i+1,h=>by
  have ih:=Wi A B t hA hB i (by omega);rw[<-Nat.add_assoc];unfold cut;have eQ:i<B.length:=by omega
  rw[bP (by omega),Nat.add_sub_cancel_left,bL eQ];simp only;rw[eJ (hB _ (List.getElem_mem eQ))];exact ih
theorem QL (all:List N.iM)(wv:List Own)(k:Nat)(hl:wv.length=all.length)(hk:k<=all.length):cut (pT all wv) (1000+(k:Int)) (pT all wv).length=(pT (wJ all k) wv).length:=by
 rw[Wg all wv k hl,Qv all wv k hl hk,bN];refine Wi _ _ _ ?_ ?_ _ (bD _)
 ·exact B2 _ _ 0 k (by rw[dH];omega)
 ·exact K1 _ _ k
theorem Ls (all:List N.iM)(wv:List Own)(k:Nat)(hl:wv.length=all.length)(hk:k<=all.length):dN (wJ all k) wv=(dN all wv).take (pT (wJ all k) wv).length:=by
 rw[nH,nH,Wg all wv k hl,Qv all wv k hl hk,List.map_append];have e:(pT (all.take k) (wv.take k)).length=((pT (all.take k) (wv.take k)).map λr=>iW r.o).length:=by rw[dO]
 rw[e,List.take_left'];rfl
variable {w:aY}{e n cap g:Nat}{xs:List aG}
theorem Nc {o:Nat}(h:w.ownsRow 0 e 1 (aJ (aE ⟨g,0,aC⟩) n cap) n xs)(ho:n<=o)(u:aG):(w.setCell ⟨g,o,aC⟩ u).ownsRow 0 e 1 (aJ (aE ⟨g,0,aC⟩) n cap) n xs:=by
 refine⟨h.1,.inr ?_⟩;rcases h.2 with ⟨h1,_⟩|⟨g',mT,cur,h1,hb,hg,hle,hm,hs,ht⟩
 ·cases h1
 ·injection h1 with h3 _ h5;injection h3 with h3;injection h3 with h3 _;subst h3 h5;refine⟨g,cap,_,rfl,hb,bV hg o u,hle,hm,by simpa using hs,?_⟩;rw[<-ht];simp only[Array.toList_setIfInBounds];rw[List.take_set_of_le (by omega)]
theorem zH:∀(vs:List aG) (o:Nat) (w:aY),w.ownsRow 0 e 1 (aJ (aE ⟨g,0,aC⟩) n cap) n xs->n<=o->(w.setCells g o vs).ownsRow 0 e 1 (aJ (aE ⟨g,0,aC⟩) n cap) n xs
 |[],_,_,h,_=>h
 |v::r,o,w,h,ho=>zH r (o+1) _ (Nc h ho v) (by omega)
variable {T:Nat->Prop}
theorem FT (hg:T g):∀(vs:List aG) (o:Nat) (w w' :aY),Mv T w w' ->Mv T w (w'.setCells g o vs)
 |[],_,_,_,h=>h
 |v::r,o,w,_,h=>FT hg r (o+1) w _ (h.setCell (p:=⟨g,o,aC⟩) (.inl hg) v)
variable {wv:List Own}{j:Nat}
theorem rZ.gone {e:N.iM}{o:Own}(h:rZ w wv j e o):rZ w wv j (Pi e) o:=by
 cases o <;> exact h
variable {w' :aY}{all:List N.iM}{vO vB:aG}
theorem jE.forgot {oJ :aG}(h:jE w all wv vO vB)(k:Nat)(hk:k<=all.length)(zP:∀j,oV w j->vO.ownBlock≠aE j->w'.heap[j]?=w.heap[j]?)(fL:w'.ownsRow 0 62 1 oJ (dN (wJ all k) wv).length (dN (wJ all k) wv)):jE w' (wJ all k) wv oJ vB:=by
 have Gp:∀k cs t fr,w.heap[k]?=aE (aU cs t fr)->t≠62->vO.ownBlock≠aE k:=λk cs t fr hk ht=>bW h.row hk ht
 have key:∀{j:Nat} {e' :N.iM},(wJ all k)[j]?=aE e' ->∃e,all[j]?=aE e/\(e' =e\/e' =Pi e):=λ{j e'} hj=>by
  rw[B5] at hj;cases ha:all[j]? with
  |none=>rw[ha] at hj;cases hj
  |some e=>
   rw[ha] at hj;injection hj with hj;refine⟨e,rfl,?_⟩;rw[<-hj]
   split
   ·exact .inl rfl
   ·exact .inr rfl
 have back:∀{j:Nat} {e:N.iM},all[j]?=aE e->∃e',(wJ all k)[j]?=aE e' /\e'.ended=e.ended:=λ{j e} hj=>by
  rw[B5,hj];refine⟨_,rfl,?_⟩
  split <;> rfl
 have xF:∀{j:Nat} {c:N.Cell},lI all j c->lI (wJ all k) j c:=λ{j c} hc=>by
  rcases hc with h1|⟨h1,i,e,h2,h3,h4,h5⟩|h1|h1
  ·exact .inl h1
  ·obtain⟨e',h6,h7⟩:=back h4;exact .inr (.inl ⟨h1,i,e',h2,h3,h6,h7.trans h5⟩)
  ·exact .inr (.inr (.inl h1))
  ·exact .inr (.inr (.inr h1))
 refine⟨by rw[Oz];exact h.len,by rw[Oz];exact h.begun,fL,?_,?_,?_,h.apart,by rw[Oz];exact h.qU,?_⟩
 ·intro j e' o hj ho kY;obtain⟨e,he,Q9⟩:=key hj;have MR:e.ended=aX:=by rcases Q9 with rfl|rfl <;> exact kY
  have hE:=h.tA j e o he ho MR;have hE2:rZ w' wv j e o:=by
   cases o with
   |defn b=>
    obtain⟨h0,vD,body,h1,h2,h3⟩:=hE;exact⟨h0,vD,body,(zP b ⟨_,_,_,h1,.inl rfl⟩ (Gp b _ _ _ h1 (by decide))).trans h1,cK h2 λk e=>by
     obtain⟨cur,hc⟩:=cZ h2 e;exact zP k ⟨_,_,_,hc,.inr (.inr (.inl rfl))⟩ (Gp k _ _ _ hc (by decide)),h3⟩
   |qW b=>exact⟨hE.1,hE.2.1,(zP b ⟨_,_,_,hE.2.2,.inr (.inl rfl)⟩ (Gp b _ _ _ hE.2.2 (by decide))).trans hE.2.2⟩
   |cons nm t n=>exact hE
   |mark nm t=>exact hE
  rcases Q9 with rfl|rfl
  ·exact hE2
  ·exact hE2.gone
 ·intro j e' hj kY c hc;obtain⟨e,he,Q9⟩:=key hj;have MR:e.ended=aX:=by rcases Q9 with rfl|rfl <;> exact kY
  have P0:c∈e.body:=by rcases Q9 with rfl|rfl <;> exact hc
  exact xF (h.ok j e he MR c P0)
 ·have:=h.vI;rw[Ls all wv k h.len hk,dH];omega
 ·intro j b hj;obtain⟨e,he,kY⟩:=h.VP j b hj;obtain⟨e',h1,h2⟩:=back he;exact⟨e',h1,h2.trans kY⟩
section
attribute [local go_sem ↓] Go.wp_at_zero Go.wp_at_succ
theorem Br (hj:j≠g):∀(vs:List aG) (o:Nat) (w:aY),(w.setCells g o vs).heap[j]?=w.heap[j]?
 |[],_,_=>rfl
 |v::r,o,w=>(Br hj r (o+1) _).trans (bA.heap_setCell w ⟨g,o,aC⟩ v j hj)
theorem QF (w:aY):(zeroValue 62).run aQ w=.ok .nilIface w:=by kernel_rfl
theorem S6 (w:aY)(mb:Nat)(T:TypeId)(v:aG)(h2:w.cell? ⟨mb,2,aC⟩=aE (aJ aC 0 0))(f2:w.frozen? ⟨mb,2,aC⟩=aV):
 bH aQ 66 #[aK (aE ⟨mb,0,aC⟩),bO T v] w λe w' =>e=aM (bC #[])/\∃W,bA w.heap.size w W/\w' =W.setCell ⟨mb,2,aC⟩ (aJ aC 0 0):=by
 have nQ:∀ty W,(Builtin.clear_ #[58] ty #[aJ aC 0 0]).run aQ W=.ok (bC #[]) W:=λty W=>by
  simp[Builtin.clear_,run_underlying underlying58]
 go_enter func66,ntmps66;go_wp2
 go_loop [4] (λi=>i=aH aF 0) (λ_=>0)
 case atStart=>rfl
 case round=>
  obtain rfl:=hrel;go_wp2;go_end0;exact⟨rfl,w,bF _ _,rfl⟩
theorem D1 (w:aY)(mb g cap:Nat)(os:List r7)(tok:Int)(q:Nat)(T:TypeId)(v:aG)(nm:ByteArray)(h2:w.cell? ⟨mb,2,aC⟩=aE (aJ (aE ⟨g,0,aC⟩) os.length cap))(f2:w.frozen? ⟨mb,2,aC⟩=aV)(hn:os.length<=40)(lU:os.length<=cap)(hg:∀j r,os[j]?=aE r->w.cell? ⟨g,j,aC⟩=aE (iW r.o)/\uZ w r.o r.nm r.tok)(bj:∀W,bA w.heap.size w W->∀F:Nat,(method (F+1) T v "Token").run aQ W=.ok (65,bM #[aI nm,aH aF tok]) W)(gK:∀W,bA w.heap.size w W->∀j,j<os.length->(W.cell? ⟨g,j,aC⟩).isSome=aX)(Nm:∀W,bA w.heap.size w W->∀j,W.frozen? ⟨g,j,aC⟩=aV)(hq:cut os tok os.length=q)(jD:mb≠g):
 bH aQ 66 #[aK (aE ⟨mb,0,aC⟩),bO T v] w λe w' =>e=aM (bC #[])/\∃W,bA w.heap.size w W/\w' =(W.setCells g q (List.replicate (os.length-q) .nilIface)).setCell ⟨mb,2,aC⟩ (aJ (aE ⟨g,0,aC⟩) q cap):=by
 have HG:=bE hg;have HM:=bE bj;have HC:=bE gK;have HZ:=bE Nm;have HQ:=bE hq;have HNE:=bE jD;have hz:=eG h2;have hqn:q<=os.length:=by rw[<-hq];exact BZ _ _ _
 have HqN:=bE hqn;have hclE:∀(a:Option Addr) (c:Nat) ty W,(Builtin.clear_ #[58] ty #[aJ a 0 c]).run aQ W=.ok (bC #[]) W:=λa c ty W=>by
  cases a <;> simp[Builtin.clear_,run_underlying underlying58]
 have nQ:∀W,bA w.heap.size w W->q<os.length->∀ty,(Builtin.clear_ #[58] ty #[aJ (aE ⟨g,q,aC⟩) (os.length-q) (cap-q)]).run aQ W=.ok (bC #[]) (W.setCells g q (List.replicate (os.length-q) .nilIface)):=λW hb eQ ty=>
  Lib.run_clear_slice W 58 62 ty .nilIface underlying58 QF rfl rfl g q (os.length-q) (cap-q) (by omega) (λj hj=>gK W hb (q+j) (by omega)) (λj _=>Nm W hb (q+j))
 have HCL:=bE nQ;clear hg bj gK Nm hq hqn nQ jD;generalize Ru:os.length=n at*;have HN:=bE Ru;clear Ru;go_enter func66,ntmps66;go_wp2
 go_loopw [4] (λi wr=>∃k:Nat,k<=n/\i=aH aF k/\bA w.heap.size w wr/\cut os tok k=q) (λi _=>match i with|aH _ k=>k.toNat|_=>0)
 case atStart=>exact⟨n,bD _,rfl,bF _ _,aN HQ⟩
 case round=>
  obtain⟨k,hk,rfl,hb,hl⟩:=hrel;have d2:wr.cell? ⟨mb,2,aC⟩=aE (aJ (aE ⟨g,0,aC⟩) n cap):=((eI hb).1 mb 2 hz).trans h2;have e2:wr.frozen? ⟨mb,2,aC⟩=aV:=((eI hb).2 mb 2 hz).trans f2;cases k with
  |zero=>
   obtain rfl:0=q:=hl;have HB:=bE hb;have jD:=aN HNE;have nQ:=aN HCL wr hb;clear hb;have i4:(n:Int)<=(cap:Int):=by omega
   have i5:(0:Int)<=(n:Int):=by omega
   have i6:(0:Int)<=(cap:Int):=by omega
   have e0:((0:Nat):Int)=0:=rfl;rw[e0];by_cases eQ:0<n
   ·have hcl2:=nQ eQ;simp only[Nat.sub_zero] at hcl2;have hx:¬cap=0:=by omega
    have z2:(wr.setCells g 0 (List.replicate n .nilIface)).cell? ⟨mb,2,aC⟩=aE (aJ (aE ⟨g,0,aC⟩) n cap):=(aY.cell?_setCells_out _ _ _ _ _ (λh=>(jD h).elim)).trans d2;have u2:(wr.setCells g 0 (List.replicate n .nilIface)).frozen? ⟨mb,2,aC⟩=aV:=(aY.frozen?_setCells _ _ _ _ _).trans e2;clear nQ;go_wp2;go_end0;exact⟨rfl,wr,aN HB,rfl⟩
   ·obtain rfl:n=0:=by omega
    clear nQ;go_wp2;go_end0;exact⟨rfl,wr,aN HB,rfl⟩
  |succ k=>
   have eQ:k<os.length:=by rw[aN HN];omega
   obtain⟨r,hr⟩:∃r,os[k]?=aE r:=⟨_,bL eQ⟩
   obtain⟨hc,hh⟩:=aN HG k r hr;obtain⟨T1,v1,hv,_,qV⟩:=pG (hh.below hb);rw[hv] at hc;have c3:wr.cell? ⟨g,k,aC⟩=aE (bO T1 v1):=((eI hb).1 g k (eG hc)).trans hc;have lC:cut os tok (k+1)=if tok<=r.tok then cut os tok k else k+1:=by
    show(match os[k]? with|some r=>if tok<=r.tok then cut os tok k else k+1|none=>cut os tok k)=_;rw[hr]
   rw[lC] at hl;have sZ:=aN HM wr hb;have Bz:=aN HM (wr.alloc (aU #[aI ⟨r.nm.toArray⟩,aH aF r.tok] 127)) (hb.alloc hb.size _);have HL:=bE hl;have HB:=bE hb;clear hl hb lC hc hh hv eQ hr;have e1:=wi ((k+1:Nat):Int);have e3:((k+1:Nat):Int)=(k:Int)+1:=by omega
   have e4:aF.wrap ((k:Int)+1-1)=(k:Int):=wj;have k1:(k:Int)<(n:Int):=by omega
   have k0:(0:Int)<(k:Int)+1:=by omega
   rw[e3];by_cases hq:tok<=r.tok
   ·have uP:=bE ((eJ hq).symm.trans (aN HL));clear HL;go_wp2;refine⟨⟨k,by omega,rfl,?_,aN uP⟩,?_⟩
    ·have h1:=(aN HB).alloc (aN HB).size (aU #[aI ⟨r.nm.toArray⟩,aH aF r.tok] 127);exact h1.alloc h1.size _
    ·show(k:Int).toNat<((k:Int)+1).toNat;omega
   ·have uP:=bE ((dL hq).symm.trans (aN HL));have DU:¬r.tok≥tok:=hq;clear HL;obtain rfl:k+1=q:=aN uP;have i1:(0:Int)<=(k:Int)+1:=by omega
    have i2:(k:Int)+1<=(n:Int):=by omega
    have i3:(k:Int)+1<=(cap:Int):=by omega
    have i4:(n:Int)<=(cap:Int):=by omega
    have i5:((k:Int)+1).toNat=k+1:=by omega
    go_wp2_with fail
    refine(tL _ ⟨r.nm.toArray⟩ r.tok).mono ?_;rintro e w1 ⟨rfl,fF⟩;have MZ:=(aN HB).trans (fF.mono (aN HB).size);have hm4:=aN HM w1 MZ;have Q5:=bE MZ;clear fF MZ sZ Bz qV;go_wp2_with fail
    refine(tL _ nm tok).mono ?_;rintro e w2 ⟨rfl,eD⟩;have R2:=(aN Q5).trans (eD.mono (aN Q5).size);have uG:=bE R2;have x2:w2.cell? ⟨mb,2,aC⟩=aE (aJ (aE ⟨g,0,aC⟩) n cap):=((eI R2).1 mb 2 hz).trans h2;have y2:w2.frozen? ⟨mb,2,aC⟩=aV:=((eI R2).2 mb 2 hz).trans f2;have nQ:=aN HCL w2 R2;clear eD R2 hm4;by_cases eQ:k+1<n
    ·have hx:¬cap=k+1:=by omega
     have hcl2:=nQ eQ;have jD:=aN HNE;clear nQ;have z2:(w2.setCells g (k+1) (List.replicate (n-(k+1)) .nilIface)).cell? ⟨mb,2,aC⟩=aE (aJ (aE ⟨g,0,aC⟩) n cap):=(aY.cell?_setCells_out _ _ _ _ _ (λh=>(jD h).elim)).trans x2;have u2:(w2.setCells g (k+1) (List.replicate (n-(k+1)) .nilIface)).frozen? ⟨mb,2,aC⟩=aV:=(aY.frozen?_setCells _ _ _ _ _).trans y2;go_wp2;go_end0;exact⟨rfl,w2,aN uG,rfl⟩
    ·have Mp:k+1=n:=by omega
     have hs:List.replicate (n-(k+1)) aG.nilIface=[]:=by rw[Mp,Nat.sub_self];rfl
     have Vg:n-(k+1)=0:=by omega
     generalize hx:(if cap=k+1 then(aE ⟨g,0,aC⟩:Option Addr) else aE ⟨g,k+1,aC⟩)=x;have HS:=bE hs;clear nQ Mp hs;go_wp2;go_end0;exact⟨rfl,w2,aN uG,by rw[aN HS];rfl⟩
end
variable {mb rb:Nat}{vW vS vR vT:aG}{s:L.gJ}
theorem eV.set2 (h:eV w mb rb vO vB vW vS vR vT s)(u:aG):eV (w.setCell ⟨mb,2,aC⟩ u) mb rb u vB vW vS vR vT s:=by
 have eR:=bV h.m 2 u;have gZ:∀j,j≠mb->(w.setCell ⟨mb,2,aC⟩ u).heap[j]?=w.heap[j]?:=λj hj=>bA.heap_setCell _ _ _ _ hj
 refine⟨eR,(gZ rb (fN h.r h.m (by decide))).trans h.r,?_,?_,?_,?_,h.ap,h.sl,h.rl,h.ol,h.wl,h.si,h.ri⟩
 ·exact cK h.st λj e=>gZ j λx=>bW h.st h.m (by decide) (x▸e)
 ·exact cK h.Fv λj e=>gZ j λx=>bW h.Fv h.m (by decide) (x▸e)
 ·exact cK h.ot λj e=>gZ j λx=>bW h.ot h.m (by decide) (x▸e)
 ·exact cK h.wd λj e=>gZ j λx=>bW h.wd h.m (by decide) (x▸e)
theorem Qu (w:aY)(mb rb:Nat)(vO vB vW vS vR vT:aG)(wv:List Own)(s:L.gJ)(all:List N.iM)(k:Nat)(o:Own)(e:N.iM)(h:lL w mb rb vO vB vW vS vR vT wv s all)(hk:all[k]?=aE e)(ho:wv[k]?=aE o)(kY:e.ended=aX):
 bH aQ 66 #[aK (aE ⟨mb,0,aC⟩),iW o] w λr w' =>r=aM (bC #[])/\gU mb rb vO vB vW vS vR vT wv s (N.kF (fR s all) k) 0 w w' :=by
 have Hd:k<=all.length:=cN (bI.1 hk).1;have pM:=h.own.tA k e o hk ho kY;obtain⟨T,v,Tg,_⟩:=pG pM.head;have bj:∀W,bA w.heap.size w W->∀F:Nat,(method (F+1) T v "Token").run aQ W=.ok (65,bM #[aI ⟨e.name.toArray⟩,aH aF (1000+(k:Int))]) W:=λW hb=>by
  obtain⟨T2,v2,UD,_,bj⟩:=pG ((h.own.below hb).tA k e o hk ho kY).head;have e3:bO T v=bO T2 v2:=Tg.symm.trans UD;clear Tg UD;injection e3 with e1 e2;rw[e1,e2];exact bj
 have m2:=cq 2 h.run.m rfl;have f2:=bG 2 h.run.m;rw[Tg];have yP:=Ls all wv k h.own.len Hd;have goes:∀(W w1:aY) (oJ :aG),bA w.heap.size w W->(∀j,vO.ownBlock≠aE j->w1.heap[j]?=W.heap[j]?)->Mv (λj=>vO.ownBlock=aE j) W w1->(∀j,oJ.ownBlock=aE j->vO.ownBlock=aE j)->
  w1.ownsRow 0 62 1 oJ (dN (wJ all k) wv).length (dN (wJ all k) wv)->gU mb rb vO vB vW vS vR vT wv s (N.kF (fR s all) k) 0 w (w1.setCell ⟨mb,2,aC⟩ oJ):=by
  intro W w1 oJ hb gZ pL hsub fL;have Sb:=h.run.below hb;have VG:=h.own.below hb;have hnot:∀j,kZ mb rb vS vR vT j\/vW.ownBlock=aE j->vO.ownBlock≠aE j:=by
   intro j hj hh;have bm:oV W j:=nK VG.row (.inr rfl) hh;rcases hj with hj|hj
   ·exact jC Sb bm hj
   ·obtain⟨c1,GQ⟩:=cZ VG.row hh;exact bW Sb.wd GQ (by decide) hj
  have vG:eV w1 mb rb vO vB vW vS vR vT s:=Sb.kept λj hj=>gZ j (hnot j hj)
  have rF:=vG.set2 oJ;have jD:∀j,oV W j->j≠mb:=λj hj x=>jC Sb hj (.inl x)
  have Fw:(w1.setCell ⟨mb,2,aC⟩ oJ).ownsRow 0 62 1 oJ (dN (wJ all k) wv).length (dN (wJ all k) wv):=cK fL λj hj=>by
   refine bA.heap_setCell _ _ _ _ λx=>?_
   have bm:oV W j:=nK VG.row (.inr rfl) (hsub j hj);exact jD j bm x
  have fK:=VG.forgot (w' :=w1.setCell ⟨mb,2,aC⟩ oJ) k Hd (λj hj hn=>(bA.heap_setCell _ _ _ _ (jD j hj)).trans (gZ j hn)) Fw;refine⟨oJ,vS,vR,vT,s,rF,fK,?_,?_,rfl,rfl,rfl,rfl,λ_=>⟨rfl,rfl,rfl⟩⟩
  ·have h1:Mv (iO mb rb vO vS vR vT wv) w w1:=(Mv.dS hb _).trans (dG.refl _ _) (pL.weaken λj hj=>.inr (.inr hj));exact h1.setCell (.inl (.inl (.inl rfl))) _
  ·intro j hj;rcases hj with hj|hj|hj
   ·exact .inl (.inl hj)
   ·exact .inl (.inr (.inl hj))
   ·exact .inl (.inr (.inr (hsub j hj)))
 rcases h.own.Sj with ⟨rfl,h0⟩|⟨g,cap,rfl,hg⟩
 ·refine(S6 w mb T v m2 f2).mono ?_;rintro r w' ⟨rfl,W,hb,rfl⟩;refine⟨rfl,goes W W _ hb (λ_ _=>rfl) (Mv.refl _ _) (λ_ hj=>hj) ?_⟩;have:dN (wJ all k) wv=[]:=by
   rw[yP,nH,h0];exact List.take_nil
  rw[this];exact aY.ownsRow_nil _ _ _ _
 ·have fL:=h.own.row;have hlen:(dN all wv).length=(pT all wv).length:=by rw[nH,dO]
  rw[hlen] at fL;have lU:(pT all wv).length<=cap:=by
   obtain⟨a,c,h1,h2,_⟩:=cU fL;injection h1 with _ _ h1;omega
  have hq:=QL all wv k h.own.len Hd;have hlenF:(dN (wJ all k) wv).length=(pT (wJ all k) wv).length:=by rw[nH,dO]
  have hle:(pT (wJ all k) wv).length<=(pT all wv).length:=by rw[<-hq];exact BZ _ _ _
  have Nm:∀W,bA w.heap.size w W->∀j,W.frozen? ⟨g,j,aC⟩=aV:=λW hb j=>by
   obtain⟨cur,hc⟩:=cZ (h.own.below hb).row (k:=g) rfl;exact bG j hc
  have gK:∀W,bA w.heap.size w W->∀j,j<(pT all wv).length->(W.cell? ⟨g,j,aC⟩).isSome=aX:=λW hb j hj=>by
   obtain⟨r,hr⟩:∃r,(pT all wv)[j]?=aE r:=⟨_,bL hj⟩
   have:=(hg j r hr).1;rw[(eI hb).1 g j (eG this),this];rfl
  refine(D1 w mb g cap (pT all wv) (1000+(k:Int)) _ T v ⟨e.name.toArray⟩ m2 f2 (by have:=h.own.vI;omega) lU hg bj gK Nm hq ?_).mono ?_
  ·intro x;obtain⟨cur,hc⟩:=cZ h.own.row (k:=g) rfl;exact fN h.run.m hc (by decide) x
  rintro r w' ⟨rfl,W,hb,hw'⟩;refine⟨rfl,?_⟩;have bn:=(h.own.below hb).row;rw[hlen] at bn;have bp:=tJ bn (pT (wJ all k) wv).length hle;rw[<-yP] at bp;have hT:(λj=>(aJ (aE ⟨g,0,aC⟩) (pT all wv).length cap).ownBlock=aE j) g:=rfl;rw[hw'];refine goes W _ _ hb ?_ (FT (T:=λj=>(aJ (aE ⟨g,0,aC⟩) (pT all wv).length cap).ownBlock=aE j) hT _ _ _ _ (Mv.refl _ _)) (λ_ hj=>hj) ?_
  ·intro j hj;exact Br (λx=>hj (by rw[x];rfl)) _ _ _
  ·rw[hlenF];exact zH _ _ _ bp (bD _)
section
attribute [local go_sem ↓] Go.wp_at_zero Go.wp_at_succ
theorem XB (w:aY)(mb rb:Nat)(nm:ByteArray)(tok:Int)(h0:w.cell? ⟨rb,0,aC⟩=aE (aK (aE ⟨mb,0,aC⟩)))(P:aY->Prop)(H:Hid (∀W,bA w.heap.size w W->W.heap[w.heap.size]?=aE (aU #[aI nm,aH aF tok] 132)->bH aQ 66 #[aK (aE ⟨mb,0,aC⟩),bO 132 (bM #[aI nm,aH aF tok])] W λr w' =>r=aM (bC #[])/\w'.cell? ⟨rb,0,aC⟩=aE (aK (aE ⟨mb,0,aC⟩))/\w'.heap[w.heap.size]?=aE (aU #[aI nm,aH aF tok] 132)/\P w')):
 bH aQ 52 #[aK (aE ⟨rb,0,aC⟩),bO 132 (bM #[aI nm,aH aF tok])] w λr w' =>r=aM (aH aF 0)/\P w' :=by
 have a0:=Rq (bM #[aI nm,aH aF tok]);have a1:=f9 (bM #[aI nm,aH aF tok]);have a2:=Xs (bM #[aI nm,aH aF tok]);have a3:=b9 (bM #[aI nm,aH aF tok]);have a4:=Xm (bM #[aI nm,aH aF tok]);have a5:=Xj (bM #[aI nm,aH aF tok]);have c0:(w.alloc (aU #[aI nm,aH aF tok] 132)).cell? ⟨rb,0,aC⟩=aE (aK (aE ⟨mb,0,aC⟩)):=bJ h0 _;have hn:(w.alloc (aU #[aI nm,aH aF tok] 132)).heap[w.heap.size]?=aE (aU #[aI nm,aH aF tok] 132):=heap_alloc_new w _;have c1:(w.alloc (aU #[aI nm,aH aF tok] 132)).cell? ⟨w.heap.size,0,aC⟩=aE (aI nm):=aZ hn rfl;have c2:(w.alloc (aU #[aI nm,aH aF tok] 132)).cell? ⟨w.heap.size,1,aC⟩=aE (aH aF tok):=aZ hn rfl;have hb:=((bF w.heap.size w).alloc (bD _) (aU #[aI nm,aH aF tok] 132)).drew;have H2:=bE (aN H _ hb hn);clear hb hn h0;go_enter func52,ntmps52;go_wp2;go_region_held3 (λw' =>w'.cell? ⟨rb,0,aC⟩=aE (aK (aE ⟨mb,0,aC⟩))/\w'.cell? ⟨w.heap.size,0,aC⟩=aE (aI nm)/\w'.cell? ⟨w.heap.size,1,aC⟩=aE (aH aF tok)) (first|exact⟨c0,c1,c2⟩|exact(by assumption)|go_keep)
  ((go_at_call 66;refine(aN H2).mono ?_
    rintro e w' ⟨rfl,c0,hh,hP⟩;have c1:=cq 0 hh rfl;have c2:=cq 1 hh rfl;have HP:=bE hP;clear hP hh))
 go_wp2;go_ret;exact⟨rfl,aN HP⟩
end
def Yp (mb rb:Nat) (vB vW:aG) (wv:List Own) (f:Nat):Prop:=
 ∀(w:aY) (vO vS vR vT:aG) (s:L.gJ) (all:List N.iM) (k b:Nat),lL w mb rb vO vB vW vS vR vT wv s all->wv[k]?=aE (Own.defn b)->(∃e,all[k]?=aE e/\e.ended=aX)->1000-s.steps<f->
  bH aQ 64 #[aK (aE ⟨rb,0,aC⟩),aK (aE ⟨b,0,aC⟩)] w λr w' =>r=aM (aH aF (N.owns f (fR s all) k s.depth).2)/\gU mb rb vO vB vW vS vR vT wv s (N.owns f (fR s all) k s.depth).1 (N.owns f (fR s all) k s.depth).2 w w'
def Hw (mb rb:Nat) (vB vW:aG) (wv:List Own) (f:Nat):Prop:=
 ∀(w:aY) (vO vS vR vT:aG) (s:L.gJ) (all:List N.iM) (k:Nat) (o:Own),lL w mb rb vO vB vW vS vR vT wv s all->wv[k]?=aE o->(∃e,all[k]?=aE e/\e.ended=aX)->1000-s.steps<f->
  bH aQ 52 #[aK (aE ⟨rb,0,aC⟩),iW o] w λr w' =>r=aM (aH aF (N.owns f (fR s all) k s.depth).2)/\gU mb rb vO vB vW vS vR vT wv s (N.owns f (fR s all) k s.depth).1 (N.owns f (fR s all) k s.depth).2 w w'
variable {f k:Nat}
theorem AL {d:Nat}{e:N.iM}(he:all[k]?=aE e)(hk:e.kind=2):N.owns f (fR s all) k d=N.push (fR s all) (1000+k):=by
 unfold N.owns;have:(fR s all).all[k]?=aE e:=he;rw[this];exact eJ hk
theorem U9 {d:Nat}{e:N.iM}(he:all[k]?=aE e)(hk:e.kind=3):N.owns f (fR s all) k d=N.push (fR s all) e.n:=by
 unfold N.owns;have:(fR s all).all[k]?=aE e:=he;rw[this];exact(dL (by omega)).trans (eJ hk)
theorem BX {d:Nat}{e:N.iM}(he:all[k]?=aE e)(hk:e.kind=4):N.owns f (fR s all) k d=(N.kF (fR s all) k,0):=by
 unfold N.owns;have:(fR s all).all[k]?=aE e:=he;rw[this];exact(dL (by omega)).trans ((dL (by omega)).trans (eJ hk))
theorem Ir (ho:jE w all wv vO vB)(h:Lq wv k):k<w.heap.size:=kH (We ho h)
theorem Qa (h:lL w mb rb vO vB vW vS vR vT wv s all)(hk:iO mb rb vO vS vR vT wv k):k<w.heap.size:=by
 rcases hk with hk|hk|hk
 ·exact h.run.lt k (.inl hk)
 ·exact Ir h.own hk
 ·exact(h.own.row.lt k hk).2
theorem Ot (h:Yp mb rb vB vW wv f):Hw mb rb vB vW wv f:=by
 intro w vO vS vR vT s all k o hr ho he hf;obtain⟨e,he,kY⟩:=he;have pM:=hr.own.tA k e o he ho kY;cases o with
 |defn b=>exact XO w rb b _ _ (bE (h w vO vS vR vT s all k b hr ho ⟨e,he,kY⟩ hf))
 |qW b=>
  have eQ:=hr.own.qU;have Hd:=(bI.1 he).1;rw[AL he pM.1];exact WS w rb b ⟨e.name.toArray⟩ (1000+(k:Int)) (aZ pM.2.2 rfl) (aZ pM.2.2 rfl) _ _ (bE λW hb=>
   (J0 W mb rb vO vB vW vS vR vT wv s all (1000+(k:Int)) (hr.below hb) ⟨by omega,by omega⟩).mono λr w' hh=>⟨hh.1,gU.after hb hh.2⟩)
 |cons nm t n=>
  obtain⟨h3,nM,Mh,ht,hn⟩:=pM;rw[U9 he h3];subst hn;exact WZ w rb ⟨nm.toArray⟩ t e.n _ _ (bE λW hb=>
   (J0 W mb rb vO vB vW vS vR vT wv s all e.n (hr.below hb) nM).mono λr w' hh=>⟨hh.1,gU.after hb hh.2⟩)
 |mark nm t=>
  rw[BX he pM.1];exact XB w mb rb ⟨nm.toArray⟩ t (aZ hr.run.r rfl) _ (bE λW hb eY=>
   (Qu W mb rb vO vB vW vS vR vT wv s all k (.mark nm t) e (hr.below hb) he ho kY).mono λr w' hh=>by
    obtain⟨oJ,v1,v2,v3,s',g1,g2,g3,g4⟩:=hh.2;refine⟨hh.1,aZ g1.r rfl,(g3.block _ (cC eY) λx=>?_).trans eY,gU.after hb hh.2⟩;have:=Qa hr x;omega)
abbrev Bp:List UInt8:=[101,120,101,99,117,116,101]
theorem Qp (s:L.gJ)(all:List N.iM)(x:Int)(hT:s.S.drop (s.S.length-1)=[x])(h1:1<=s.S.length)(hp:N.place (fR s all) x=aC):N.kC (fR s all) Bp=(fR s all,10,aC):=by
 unfold N.kC;have ht:N.takes Bp=(1,0,0,0):=by decide
 have hl:(fR s all).S.drop ((fR s all).S.length-1)=[x]:=hT;simp only[ht,hl];rw[dL (by show ¬(s.S.length<1\/s.R.length<0);omega)];have zZ:N.lG (fR s all) Bp [x]=10:=by
  show(match N.place (fR s all) x with|some _=>(0:Int)|none=>10)=10;rw[hp]
 rw[zZ];rfl
theorem Pd (s:L.gJ)(all:List N.iM)(x:Int)(k:Nat)(hT:s.S.drop (s.S.length-1)=[x])(h1:1<=s.S.length)(h16:s.S.length<=16)(hR:s.R.length<=16)(ho:s.out.length<=300)(hp:N.place (fR s all) x=aE k):
 N.kC (fR s all) Bp=(fR {s with S:=s.S.take (s.S.length-1)} all,0,aE k):=by
 obtain⟨_,_,_,hx⟩:=wW hp;unfold N.kC;have ht:N.takes Bp=(1,0,0,0):=by decide
 have hl:(fR s all).S.drop ((fR s all).S.length-1)=[x]:=hT;simp only[ht,hl];rw[dL (by show ¬(s.S.length<1\/s.R.length<0);omega)];have zZ:N.lG (fR s all) Bp [x]=0:=by
  show(match N.place (fR s all) x with|some _=>(0:Int)|none=>10)=0;rw[hp]
 rw[zZ];simp only[ne_eq,not_true_eq_false,if_false];rw[dL (by show ¬(16<s.S.length-1+0\/16<s.R.length-0+0);omega),dL (by show ¬(300<s.out.length+0);omega)];have hxk:(x-1000).toNat=k:=by omega
 show((⟨all,s.S.take (s.S.length-1),s.R,s.out++[],s.steps⟩:N.cE),(0:Int),aE (x-1000).toNat)=_;rw[hxk];simp[fR]
def qD (f:Nat) (m:N.cE) (depth:Nat) (nm:List UInt8):N.cE×Int:=
 match (N.kC m nm).2.2 with
 |some j=>N.owns f (N.kC m nm).1 j depth
 |none=>((N.kC m nm).1,(N.kC m nm).2.1)
variable {v1:aG}
theorem I6 (h:lL w mb rb vO vB vW vS vR vT wv s all)(hr:eV w' mb rb vO vB vW v1 vR vT {s with S:=s.S.take (s.S.length-k)})(hm:Mv (kZ mb rb vS vR vT) w w')(hf:dG w (kZ mb rb vS vR vT) (kZ mb rb v1 vR vT)):lL w' mb rb vO vB vW v1 vR vT wv {s with S:=s.S.take (s.S.length-k)} all:=by
 refine⟨hr,h.own.mv h.run hm,?_,?_,h.st,h.dp⟩
 ·exact eU h.Ca (hm.block _ (lD h.Ca) λhh=>h.o4 (.inl hh))
 ·intro hh;rcases rV (wv:=wv) hf _ hh with x|x
  ·exact h.o4 x
  ·have:=lD h.Ca;omega
theorem Yu (hO:Hw mb rb vB vW wv f)(w:aY)(vO vS vR vT:aG)(s:L.gJ)(all:List N.iM)(h:lL w mb rb vO vB vW vS vR vT wv s all)(hf:1000-s.steps<f):
 bH aQ 63 #[aK (aE ⟨rb,0,aC⟩),dD ⟨Bp,1,0,3⟩] w λr w' =>r=aM (aH aF (qD f (fR s all) s.depth Bp).2)/\gU mb rb vO vB vW vS vR vT wv s (qD f (fR s all) s.depth Bp).1 (qD f (fR s all) s.depth Bp).2 w w' :=by
 unfold qD;by_cases hu:s.S.length<1\/s.R.length<0
 ·have hd:N.kC (fR s all) Bp=(fR s all,6,aC):=eJ hu;rw[hd];exact(Ap w mb rb vO vB vW vS vR vT s _ 1 0 3 h.run hu).mono λr w' hh=>⟨hh.1,gU.stay h.run h.own hh.2⟩
 ·have h1:1<=s.S.length:=by omega
  have pJ:(s.S.drop (s.S.length-1)).length=1:=by rw[List.length_drop];omega
  obtain⟨x,hx⟩:∃x,s.S.drop (s.S.length-1)=[x]:=List.length_eq_one_iff.1 pJ;have tail:∀(code:Int) (Q:aY->aY->Prop),(∀W,bA w.heap.size w W->bH aQ 104 #[aK (aE ⟨rb,0,aC⟩),mE wv (N.place (fR s all) x)] W λr w' =>r=aM (aH aF code)/\Q W w')->
   bH aQ 63 #[aK (aE ⟨rb,0,aC⟩),dD ⟨Bp,1,0,3⟩] w λr w' =>r=aM (aH aF code)/\∃W,bA w.heap.size w W/\Q W w' :=by
   intro code Q hF;refine(uI w mb rb vO vB vW vS vR vT s ⟨#[101,120,101,99,117,116,101]⟩ 1 0 3 code (λW w' =>∃W',bA W.heap.size W W' /\bA w.heap.size w W/\Q W' w') h.run h1 (bZ _) λFY pI hs _=>.inl ⟨rfl,λW hb=>?_⟩).mono ?_
   ·rw[hx] at hs;obtain⟨b,o,c,y,hy,rfl,hc⟩:=uB hs rfl;injection hy with hy;subst hy;refine(Ue W mb rb b o c 1 0 rfl (by decide) x (mE wv (N.place (fR s all) x)) code (λW' w' =>Q W' w') (aZ (h.run.below hb).r rfl) (dX hc hb) (bE λW1 fF=>?_) (bE λW1 fF=>?_)).mono ?_
    ·have vG:=(h.below hb).below fF;exact Ke W1 mb x s all wv vO vB (aZ vG.run.m rfl) vG.own
    ·exact hF W1 (hb.trans (fF.mono hb.size))
    ·rintro r w' ⟨rfl,W',Ew,hq⟩;exact⟨rfl,W',Ew,hb,hq⟩
   ·rintro r w' ⟨rfl,W,_,W',Ew,hb,hq⟩;exact⟨rfl,W',hb.trans (Ew.mono hb.size),hq⟩
  cases hp:N.place (fR s all) x with
  |none=>
   rw[Qp s all x hx h1 hp];rw[hp] at tail;refine(tail 10 (λW w' =>w' =W) λW hb=>u7 W rb).mono ?_;rintro r w' ⟨rfl,W,hb,rfl⟩;exact⟨rfl,gU.stay h.run h.own hb⟩
  |some k=>
   rw[Pd s all x k hx h1 h.run.sl h.run.rl h.run.ol hp];rw[hp] at tail;obtain⟨e,he,Ss,_⟩:=wW hp;have eQ:k<wv.length:=by
    rw[h.own.len];exact(bI.1 he).1
   obtain⟨o,ho⟩:∃o,wv[k]?=aE o:=⟨_,bL eQ⟩
   have hv:mE wv (aE k)=iW o:=by unfold mE;rw[Option.bind_some,ho];rfl
   obtain⟨T,v,Tg⟩:=vZ o;rw[hv,Tg] at tail;show bH _ _ _ _ λr w' =>r=aM (aH aF (N.owns f (fR {s with S:=s.S.take (s.S.length-1)} all) k s.depth).2)/\gU mb rb vO vB vW vS vR vT wv s (N.owns f (fR {s with S:=s.S.take (s.S.length-1)} all) k s.depth).1 (N.owns f (fR {s with S:=s.S.take (s.S.length-1)} all) k s.depth).2 w w'
   refine(tail (N.owns f (fR {s with S:=s.S.take (s.S.length-1)} all) k s.depth).2 (λW w' =>gU mb rb vO vB vW vS vR vT wv s (N.owns f (fR {s with S:=s.S.take (s.S.length-1)} all) k s.depth).1 (N.owns f (fR {s with S:=s.S.take (s.S.length-1)} all) k s.depth).2 W w') λW hb=>?_).mono ?_
   ·have hr:=h.below hb;refine Zg W rb T v _ _ (bE ?_);refine(Hg W mb rb 1 vO vB vW vS vR vT s hr.run (bD _) (by decide)).mono ?_;intro r w1 hh;rw[dL (by omega)] at hh;obtain⟨g,o',c,v1,rfl,_,vG,qV,u6⟩:=hh;refine⟨_,rfl,?_⟩;have N9:=I6 hr vG qV u6;have:=hO w1 vO v1 vR vT _ all k o N9 ho ⟨e,he,jX Ss⟩ hf;rw[Tg] at this;refine this.mono λr w' hh=>⟨hh.1,?_⟩
    obtain⟨oJ,x1,x2,x3,s',g1,g2,g3,g4,g5⟩:=hh.2;have hmN:Mv (iO mb rb vO vS vR vT wv) W w1:=qV.weaken λk hk=>.inl hk
    exact⟨oJ,x1,x2,x3,s',g1,g2,hmN.trans (rV u6) g3,(rV u6).trans qV.size g4,g5⟩
   ·rintro r w' ⟨rfl,W,hb,hg⟩;exact⟨rfl,gU.after hb hg⟩
theorem ON (hO:Hw mb rb vB vW wv f)(w:aY)(vO vS vR vT:aG)(s:L.gJ)(all:List N.iM)(h:lL w mb rb vO vB vW vS vR vT wv s all)(hf:1000-s.steps<f)(p:L.Prim)(hp:p∈L.oY++L.sV):
 bH aQ 63 #[aK (aE ⟨rb,0,aC⟩),dD p] w λr w' =>r=aM (aH aF (qD f (fR s all) s.depth p.name).2)/\gU mb rb vO vB vW vS vR vT wv s (qD f (fR s all) s.depth p.name).1 (qD f (fR s all) s.depth p.name).2 w w' :=by
 rcases List.mem_append.1 hp with hp|hp
 ·unfold qD;rw[BK s all p hp];exact(CE w mb rb vO vB vW vS vR vT s p hp h.run h.Ca).mono λr w' hh=>⟨hh.1,gU.Jr h.run h.own hh.2 (L.Mj _ _)⟩
 ·simp only[L.sV,List.mem_cons,dR,or_false] at hp;rcases hp with rfl|rfl|rfl
  ·unfold qD;refine(CO w mb rb vO vB vW vS vR vT wv s all h).mono λr w' hh=>?_
   obtain⟨h1,h2,h3⟩:=hh;rw[h2];exact⟨h1,h3⟩
  ·exact Yu hO w vO vS vR vT s all h hf
  ·unfold qD;refine(Z4 w mb rb vO vB vW vS vR vT wv s all h).mono λr w' hh=>?_
   obtain⟨h1,h2,h3⟩:=hh;rw[h2];exact⟨h1,h3⟩
theorem A9 (hO:Hw mb rb vB vW wv f)(w:aY)(vO vS vR vT:aG)(s:L.gJ)(all:List N.iM)(h:lL w mb rb vO vB vW vS vR vT wv s all)(hf:1000-s.steps<f)(j:Nat)(c:N.Cell)(g:Nat)(hc:lI all j c)(hk:c.kind≠4):
 bH aQ 52 #[aK (aE ⟨rb,0,aC⟩),fB wv (c,g)] w λr w' =>r=aM (aH aF (N.gC f (fR s all) s.depth c).2)/\gU mb rb vO vB vW vS vR vT wv s (N.gC f (fR s all) s.depth c).1 (N.gC f (fR s all) s.depth c).2 w w' :=by
 rcases hc with ⟨h1,nM⟩|⟨h2,k,e,hn,_,he,kY⟩|⟨h3,Ja⟩|⟨h4,_⟩
 ·have e1:fB wv (c,g)=bO 117 (aH aF c.n):=eJ h1;have e2:N.gC f (fR s all) s.depth c=N.push (fR s all) c.n:=eJ h1;rw[e1,e2];exact fh w rb c.n _ _ (bE (J0 w mb rb vO vB vW vS vR vT wv s all c.n h nM))
 ·have hnk:c.n.toNat=k:=by omega
  have eQ:k<wv.length:=by
   rw[h.own.len];exact(bI.1 he).1
  obtain⟨o,ho⟩:∃o,wv[k]?=aE o:=⟨_,bL eQ⟩
  have e1:fB wv (c,g)=iW o:=by
   refine(dL (by show ¬c.kind=1;omega)).trans ((eJ h2).trans ?_);show((wv[c.n.toNat]?).map iW).getD .nilIface=_;rw[hnk,ho];rfl
  have e2:N.gC f (fR s all) s.depth c=N.owns f (fR s all) k s.depth:=by
   refine(dL (by omega)).trans ((eJ h2).trans ?_);rw[hnk]
  rw[e1,e2];exact hO w vO vS vR vT s all k o h ho ⟨e,he,kY⟩ hf
 ·obtain⟨p,hp⟩:=Option.isSome_iff_exists.1 Ja;have hm:=List.mem_of_find?_eq_some hp;have Mh:=List.find?_some hp;rw[beq_iff_eq] at Mh;have e1:fB wv (c,g)=bO 120 (dD p):=by
   refine(dL (by show ¬c.kind=1;omega)).trans ((dL (by show ¬c.kind=2;omega)).trans ((eJ h3).trans ?_));show((L.find c.name).map λp=>bO 120 (dD p)).getD .nilIface=_;rw[hp];rfl
  have e2:N.gC f (fR s all) s.depth c=qD f (fR s all) s.depth p.name:=by
   rw[<-Mh];exact(dL (by omega)).trans (dL (by omega))
  rw[e1,e2];exact XL w rb ⟨p.name.toArray⟩ p.takes p.aside p.group _ _ (bE λW hb=>(ON hO W vO vS vR vT s all (h.below hb) hf p hm).mono λr w' hh=>⟨hh.1,gU.after hb hh.2⟩)
 ·exact(hk h4).elim
namespace N
open Go.RowKit
def Alike (a b:iM):Prop:=b.body=a.body/\b.ended=a.ended/\b.kind=a.kind/\b.name=a.name
def Kept (m m2:cE):Prop:=∀(j:Nat) (e:iM),m.all[j]?=aE e->∃e2,m2.all[j]?=aE e2/\Alike e e2
theorem Kept.fZ {m m2:cE}(h:m2.all=m.all):Kept m m2:=λ_ e he=>⟨e,by rw[h];exact he,rfl,rfl,rfl,rfl⟩
theorem Kept.trans {a b c:cE}(h:Kept a b)(h2:Kept b c):Kept a c:=λj e he=>by
 obtain⟨e2,h1,k1,k2,k3,k4⟩:=h j e he;obtain⟨e3,h3,l1,l2,l3,l4⟩:=h2 j e2 h1;exact⟨e3,h3,l1.trans k1,l2.trans k2,l3.trans k3,l4.trans k4⟩
theorem rK (m:cE)(n:Int):(push m n).1.all=m.all:=by unfold push;split <;> rfl
theorem NE (m:cE)(s:eE)(l rest:List Int):Kept m (kR m s l rest):=by
 by_cases h:(s==[33])=aX
 ·rw[beq_iff_eq] at h;subst h;intro j e he;refine⟨_,by show(m.all.modify (l.getD 1 0-1000).toNat λe=>{e with n:=l.getD 0 0})[j]?=_;rw[List.getElem?_modify,he];rfl,?_⟩;show Alike e (if(l.getD 1 0-1000).toNat=j then {e with n:=l.getD 0 0} else e)
  split <;> exact⟨rfl,rfl,rfl,rfl⟩
 ·refine Kept.fZ ?_;unfold kR;simp only[if_neg h];simp only[apply_ite cE.all,ite_self]
theorem Wq (m:cE)(s:eE):Kept m (kC m s).1:=by
 unfold kC;simp only
 repeat' split
 all_goals first
  |exact Kept.fZ rfl
  |exact λj e he=>NE _ _ _ _ j e he
theorem j8 {m m1:cE}{n:Int}(h:pop m=aE (m1,n)):m1.all=m.all:=by
 unfold pop at h;cases hl:m.S.getLast? with
 |none=>rw[hl] at h;cases h
 |some x=>
  rw[hl] at h;injection h with h;injection h with h _;rw[<-h]
theorem Jg (m:cE)(l:List Cell)(a:Nat)(s:eE):(ways m l a s).1.all=m.all:=by
 unfold ways
 split
 ·cases hp:pop m with
  |none=>rfl
  |some q=>
   obtain⟨m1,n⟩:=q;have:=j8 hp;simp only
   repeat' split
   all_goals exact this
 ·repeat' split
  all_goals rfl
theorem Bd (m:cE)(l:List Cell)(a:Nat)(s:eE)(r:List (Int×Int)):(rounds m l a s r).1.all=m.all:=by
 unfold rounds;simp only
 repeat' split
 all_goals first
  |rfl
  |exact rK _ _
theorem Jq (m:cE)(k:Nat):Kept m (kF m k):=λj e he=>by
 have eQ:=(bI.1 he).1;unfold kF;by_cases hj:j<k
 ·refine⟨e,?_,rfl,rfl,rfl,rfl⟩;show(m.all.take k++_)[j]?=aE e;rw[bT (by rw[dH];omega),List.getElem?_take,if_pos hj];exact he
 ·refine⟨{e with gone:=aX},?_,rfl,rfl,rfl,rfl⟩;show(m.all.take k++(m.all.drop k).map _)[j]?=_;rw[bP (by rw[dH];omega),cI,List.getElem?_drop,dH];have:k+(j-min k m.all.length)=j:=by omega
  rw[this,he];rfl
theorem wO (hb:∀m k l d a r,Kept m (body f m k l d a r).1)(m:cE)(j depth:Nat):Kept m (owns f m j depth).1:=by
 unfold owns;cases m.all[j]? with
 |none=>exact Kept.fZ rfl
 |some e=>
  simp only
  split
  ·exact Kept.fZ (rK _ _)
  ·split
   ·exact Kept.fZ (rK _ _)
   ·split
    ·exact Jq _ _
    ·split
     ·exact Kept.fZ rfl
     ·exact hb _ _ _ _ _ _
theorem Ej (hb:∀m k l d a r,Kept m (body f m k l d a r).1){m:cE}{p:cE×Int}(hp:Kept m p.1)(k:Nat)(l:List Cell)(depth next:Nat)(r:List (Int×Int)):Kept m (pC f k l depth p next r).1:=by
 unfold pC
 split
 ·exact hp
 ·exact hp.trans (hb _ _ _ _ _ _)
theorem zU (hb:∀m k l d a r,Kept m (body f m k l d a r).1)(m:cE)(depth:Nat)(c:Cell):Kept m (gC f m depth c).1:=by
 unfold gC
 split
 ·exact Kept.fZ (rK _ _)
 ·split
  ·exact wO hb _ _ _
  ·cases(kC m c.name).2.2 with
   |none=>exact Wq _ _
   |some j=>exact(Wq m c.name).trans (wO hb _ _ _)
theorem Kr:∀f m k l d a r,Kept m (body f m k l d a r).1
 |0,m,_,_,_,_,_=>Kept.fZ rfl
 |f+1,m,k,l,d,a,r=>by
  have hb:=Kr f;have h0:Kept m (dI m):=Kept.fZ rfl;cases hl:l[a]? with
  |none=>
   rw[wQ f m k l d a r hl];exact Kept.fZ rfl
  |some c=>
   by_cases hs:1000<=m.steps
   ·rw[Dm f m k l d a r c hl hs];exact h0
   ·by_cases hk:c.kind=1\/c.kind=2\/c.kind=3
    ·rw[tY f m k l d a r c hl hs hk];exact Ej hb (h0.trans (zU hb _ _ _)) _ _ _ _ _
    ·rw[body,hl];simp only[if_neg hs];rw[if_neg (show ¬c.kind=1 by omega),if_neg (show ¬c.kind=2 by omega),if_neg (show ¬c.kind=3 by omega)]
     split
     ·exact h0
     ·split
      ·have:=Ej hb (h0.trans (wO hb (dI m) k d)) k l d (a+1) r;unfold pC at this;simp only[<-Eo] at this;exact this
      ·split
       ·exact Ej hb (p:=((rounds (dI m) l a c.name r).1,(rounds (dI m) l a c.name r).2.2.2)) (h0.trans (Kept.fZ (Bd _ _ _ _ _))) _ _ _ _ _
       ·exact Ej hb (p:=((ways (dI m) l a c.name).1,(ways (dI m) l a c.name).2.2)) (h0.trans (Kept.fZ (Jg _ _ _ _))) _ _ _ _ _
theorem cK (f:Nat)(m:cE)(j depth:Nat):Kept m (owns f m j depth).1:=wO (Kr f) m j depth
theorem rO (f:Nat)(m:cE)(depth:Nat)(c:Cell):Kept m (gC f m depth c).1:=zU (Kr f) m depth c
end N
structure Pb where
 mb:Nat
 rb:Nat
 cb:Nat
 b:Nat
 k:Nat
 F:Nat
 vO:aG
 vB:aG
 vW:aG
 vS:aG
 vR:aG
 vT:aG
 wv:List Own
 s1:L.gJ
 l:List N.Cell
 res:N.cE×Int
 w0:aY
def Pb.Goes (C:Pb) (m:N.cE) (code:Int) (w:aY):Prop:=gU C.mb C.rb C.vO C.vB C.vW C.vS C.vR C.vT C.wv C.s1 m code C.w0 w
def Pb.At (C:Pb) (pos:Nat) (r:List (Int×Int)) (w:aY):Prop:=∃vL,mS w C.cb C.rb C.b pos vL r/\∀j,vL.ownBlock=aE j->C.w0.heap.size<=j
def Pb.iM (C:Pb) (m:N.cE):Prop:=∃e,m.all[C.k]?=aE e/\e.ended=aX/\e.body=C.l
def Pb.Inv (C:Pb) (t:Nat) (w:aY):Prop:=∃f m pos r,C.Goes m 0 w/\m.steps<=1000/\t<=m.steps/\C.At pos r w/\r.length<=m.steps/\(pos<C.l.length->(r.length:Int)=N.dc C.l pos)/\C.iM m/\f<=C.F/\1000-m.steps<f/\N.body f m C.k C.l C.s1.depth pos r=C.res
def Pb.fU (C:Pb) (code:Int) (w:aY):Prop:=code=C.res.2/\C.Goes C.res.1 code w
def Pb.Ey (C:Pb) (t:Nat) (code:Int) (w:aY):Prop:=(code≠0/\C.fU code w)\/(code=0/\C.Inv t w)
structure Pb.Ok (C:Pb):Prop where
 ready:∃all,lL C.w0 C.mb C.rb C.vO C.vB C.vW C.vS C.vR C.vT C.wv C.s1 all
 hcb:C.w0.heap.size<=C.cb
 own:C.wv[C.k]?=aE (Own.defn C.b)
 ih:∀f,f<C.F->Yp C.mb C.rb C.vB C.vW C.wv f
variable {C:Pb}{m m2:N.cE}
theorem RE (h:C.iM m)(hk:N.Kept m m2):C.iM m2:=by
 obtain⟨e,h1,h2,h3⟩:=h;obtain⟨e2,k1,k2,k3,_⟩:=hk C.k e h1;exact⟨e2,k1,k3.trans h2,k2.trans h3⟩
variable {m0:N.cE}{code:Int}{r:List (Int×Int)}
theorem pP {next:Nat}(hg:C.Goes m2 code w)(dJ:N.pC f C.k C.l C.s1.depth (m2,code) next r=C.res)(hs:N.mW m0 (m2,code))(hm:m0.steps<=1000)(hk:N.Kept m0 m2)(he:C.iM m0)(hf:f<=C.F)(hfu:1000-m0.steps<f)(hc:code=0->C.At next r w/\r.length<=m2.steps/\(next<C.l.length->(r.length:Int)=N.dc C.l next)):C.Ey m0.steps code w:=by
 unfold N.pC at dJ;by_cases hz:code=0
 ·subst hz;have h1:=hs.1;have h2:=hs.2 rfl hm;obtain⟨h3,h4,h5⟩:=hc rfl;rw[dL (by simp)] at dJ;simp only at h1 h2;exact .inr ⟨rfl,f,m2,next,r,hg,h2,h1,h3,h4,h5,RE he hk,hf,by omega,dJ⟩
 ·rw[eJ hz] at dJ;exact .inl ⟨hz,by rw[<-dJ],by rw[<-dJ];exact hg⟩
variable {W:aY}
theorem gm (h:lL w mb rb vO vB vW vS vR vT wv s all){D:Nat->Prop}(hD:∀k,D k->Cz w k)(ht:¬D 3)(hm:Mv D w W):lL W mb rb vO vB vW vS vR vT wv s all:=by
 refine⟨h.run.kept λk hk=>hm.block k (h.run.lt k hk) λhd=>yV h.run (hD k hd) hk,h.own.kept λk hk=>hm.block k (kH hk) λhd=>vQ hk (hD k hd),?_,h.o4,h.st,h.dp⟩;exact eU h.Ca (hm.block _ (lD h.Ca) ht)
theorem On (hr:eV w mb rb vO vB vW vS vR vT s)(ho:jE w all wv vO vB)(hk:Cz w k):¬iO mb rb vO vS vR vT wv k:=by
 rintro(h|h|h)
 ·exact yV hr hk (.inl h)
 ·exact vQ (We ho h) hk
 ·exact vQ (nK ho.row (.inr rfl) h) hk
variable {cb b pos:Nat}{vL:aG}
theorem Yi {rb' :Nat}(h:lL w mb rb vO vB vW vS vR vT wv s all)(hc:mS w cb rb' b pos vL r)(hm:Mv (iO mb rb vO vS vR vT wv) w W):mS W cb rb' b pos vL r:=
 hc.kept λk hk=>hm.block k (Wd (hc.block hk)) (On h.run h.own (hc.block hk))
theorem Cr (hO:C.Ok)(h:C.Goes m code w){D:Nat->Prop}(hD:∀k,D k->Cz w k/\C.w0.heap.size<=k)(hm:Mv D w W):C.Goes m code W:=by
 obtain⟨vO,v1,v2,v3,s',h1,h2,h3,h4,h5⟩:=h;obtain⟨all0,xE⟩:=hO.ready;refine⟨vO,v1,v2,v3,s',h1.kept λk hk=>hm.block k (h1.lt k hk) λhd=>yV h1 (hD k hd).1 hk,h2.kept λk hk=>hm.block k (kH hk) λhd=>vQ hk (hD k hd).1,?_,h4,h5⟩;exact⟨hm.os.trans h3.os,hm.tape.trans h3.tape,hm.output.trans h3.output,cF h3.size hm.size,λk hk ht=>(hm.block k (eC hk h3.size) λhd=>by have:=(hD k hd).2;omega).trans (h3.block k hk ht)⟩
theorem rX (hO:C.Ok)(h:C.Goes m 0 w)(jT:m.steps<=1000):∃vO v1 v2 v3,lL w C.mb C.rb vO C.vB C.vW v1 v2 v3 C.wv (Td C.s1 m) m.all/\Mv (iO C.mb C.rb C.vO C.vS C.vR C.vT C.wv) C.w0 w/\dG C.w0 (iO C.mb C.rb C.vO C.vS C.vR C.vT C.wv) (iO C.mb C.rb vO v1 v2 v3 C.wv):=by
 obtain⟨all0,xE⟩:=hO.ready;exact gU.open xE h jT
variable {v2 v3:aG}
theorem rQ (hm:Mv (iO C.mb C.rb C.vO C.vS C.vR C.vT C.wv) C.w0 w)(hf:dG C.w0 (iO C.mb C.rb C.vO C.vS C.vR C.vT C.wv) (iO C.mb C.rb vO v1 v2 v3 C.wv))(h:gU C.mb C.rb vO C.vB C.vW v1 v2 v3 C.wv (Td C.s1 m) m2 code w W):C.Goes m2 code W:=gU.trans hm hf h
theorem FH (h:lL w C.mb C.rb vO C.vB C.vW v1 v2 v3 C.wv s all)(hc:C.At pos r w)(hm:Mv (iO C.mb C.rb vO v1 v2 v3 C.wv) w W):C.At pos r W:=by
 obtain⟨vL,h1,h2⟩:=hc;exact⟨vL,Yi h h1 hm,h2⟩
theorem pB (hc:C.At pos r w)(hb:bA w.heap.size w W):C.At pos r W:=by
 obtain⟨vL,h1,h2⟩:=hc;exact⟨vL,h1.below hb,h2⟩
theorem jU (h:C.Goes m code w)(hb:bA w.heap.size w W):C.Goes m code W:=by
 obtain⟨vO,v1,v2,v3,s',h1,h2,h3,h4,h5⟩:=h;exact⟨vO,v1,v2,v3,s',h1.below hb,h2.below hb,h3.trans (dG.refl _ _) (Mv.dS hb _),h4,h5⟩
theorem LG (h:mS w cb rb b pos vL r)(p:Nat)(u:aG)(hu:u=aH aF p):mS (w.setCell ⟨cb,2,aC⟩ u) cb rb b p vL r/\Mv (λk=>k=cb) w (w.setCell ⟨cb,2,aC⟩ u):=by
 subst hu;refine⟨⟨bV h.c 2 _,?_,h.li⟩,(Mv.refl (λk=>k=cb) w).setCell (p:=⟨cb,2,aC⟩) (.inl rfl) _⟩;refine cV h.l λk e=>bA.heap_setCell _ _ _ _ ?_
 rintro rfl;obtain⟨_,h'⟩:=cJ h.l e;have:=cM h.c h'
 revert this
 decide
theorem AV (hO:C.Ok)(h:C.At pos r w):∀k,k=C.cb->Cz w k/\C.w0.heap.size<=k:=by
 rintro k rfl;obtain⟨vL,h1,_⟩:=h;exact⟨h1.block (.inl rfl),hO.hcb⟩
variable {p:Nat}
theorem jump (hO:C.Ok)(hg:C.Goes m code w)(ha:C.At pos r w)(u:aG)(hu:u=aH aF p):C.Goes m code (w.setCell ⟨C.cb,2,aC⟩ u)/\C.At p r (w.setCell ⟨C.cb,2,aC⟩ u):=by
 obtain⟨vL,h1,h2⟩:=ha;obtain⟨h3,h4⟩:=LG h1 p u hu;exact⟨Cr hO hg (AV hO ⟨vL,h1,h2⟩) h4,vL,h3,h2⟩
theorem Pp (hO:C.Ok)(hg:C.Goes m 0 w)(jT:m.steps<=1000)(ha:C.At pos r w)(k:Nat)(hk:1<=k)(tC:k<=2):
 bH aQ 114 #[aK (aE ⟨C.rb,0,aC⟩),aH aF k] w λe w' =>
  if m.S.length<k then e=aM (bC #[aJ aC 0 0,aH aF 6])/\w' =w
  else ∃g o c,e=aM (bC #[aJ (aE ⟨g,o,aC⟩) k c,aH aF 0])/\(∀j u,(m.S.drop (m.S.length-k))[j]?=aE u->w'.cell? ⟨g,o+j,aC⟩=aE (aH aF u))/\
   C.Goes {m with S:=m.S.take (m.S.length-k)} 0 w' /\C.At pos r w' :=by
 obtain⟨vO,v1,v2,v3,hR,hm,hf⟩:=rX hO hg jT;refine(Hg w C.mb C.rb k vO C.vB C.vW v1 v2 v3 (Td C.s1 m) hR.run hk tC).mono ?_;intro e w' h;by_cases eQ:m.S.length<k
 ·have hlt' :(Td C.s1 m).S.length<k:=eQ;rw[eJ hlt'] at h;rw[eJ eQ];exact h
 ·have hlt' :¬(Td C.s1 m).S.length<k:=eQ;rw[dL hlt'] at h;rw[dL eQ];obtain⟨g,o,c,x1,he,gK,vG,qV,u6⟩:=h;refine⟨g,o,c,he,gK,?_,FH hR ha (qV.weaken λk hk=>.inl hk)⟩;refine rQ (m:=m) hm hf ⟨vO,x1,v2,v3,_,vG,hR.own.mv hR.run qV,qV.weaken λk hk=>.inl hk,rV u6,rfl,rfl,rfl,rfl,λ_=>⟨rfl,rfl,rfl⟩⟩
theorem RG {x:Int}(h:m.S.drop (m.S.length-1)=[x]):N.pop m=aE ({m with S:=m.S.take (m.S.length-1)},x):=by
 have hS:m.S=m.S.take (m.S.length-1)++[x]:=by rw[<-h,List.take_append_drop]
 unfold N.pop;have hl:m.S.getLast?=aE x:=by
  rw[hS];simp
 rw[hl];simp only;rw[List.dropLast_eq_take]
theorem RL (h:m.S.length<1):N.pop m=aC:=by
 unfold N.pop;have:m.S=[]:=dU.1 (by omega);rw[this];rfl
theorem Wj (code:Int)(h:C.Goes m 0 w):C.Goes m code w:=by
 obtain⟨vO,v1,v2,v3,s',h1,h2,h3,h4,h5,h6,h7,h8,h9⟩:=h;exact⟨vO,v1,v2,v3,s',h1,h2,h3,h4,h5,h6,h7,h8,λ_=>h9 rfl⟩
theorem E5 (hO:C.Ok)(hg:C.Goes m 0 w)(jT:m.steps<=1000)(ha:C.At pos r w)(k:Nat)(hk:1<=k)(tC:k<=2)(h:m.S.length<k):
 bH aQ 114 #[aK (aE ⟨C.rb,0,aC⟩),aH aF k] w λe w' =>e=aM (bC #[aJ aC 0 0,aH aF 6])/\w' =w:=by
 have:=Pp hO hg jT ha k hk tC;simp only[eJ h] at this;exact this
theorem x5 (hO:C.Ok)(hg:C.Goes m 0 w)(jT:m.steps<=1000)(ha:C.At pos r w)(k:Nat)(hk:1<=k)(tC:k<=2)(h:¬m.S.length<k):
 bH aQ 114 #[aK (aE ⟨C.rb,0,aC⟩),aH aF k] w λe w' =>∃g o c,e=aM (bC #[aJ (aE ⟨g,o,aC⟩) k c,aH aF 0])/\(∀j u,(m.S.drop (m.S.length-k))[j]?=aE u->w'.cell? ⟨g,o+j,aC⟩=aE (aH aF u))/\
  C.Goes {m with S:=m.S.take (m.S.length-k)} 0 w' /\C.At pos r w' :=by
 have:=Pp hO hg jT ha k hk tC;simp only[dL h] at this;exact this
structure NG (C:Pb) (W:aY) (m0:N.cE) (pos:Nat) (r:List (Int×Int)) (f:Nat) (b:List UInt8) (g:Nat):Prop where
 ok:C.Ok
 go:C.Goes m0 0 W
 st:m0.steps<=1000
 ca:C.At (pos+1) r W
 rl:r.length+1<=m0.steps
 dp:(r.length:Int)=N.dc C.l pos
 tA:C.iM m0
 hf:f<C.F
 fu:1000-m0.steps<f
 hc:∃n0,C.l[pos]?=aE ⟨4,n0,b⟩
 hg:(N.fwd b||N.bwd b)=aX->g=N.goal C.l pos b
 jk:N.Bl C.l pos b g
 len:C.l.length<=60
 res:(if b==N.sW then(m0,0)
  else if b==N.kX then N.pC f C.k C.l C.s1.depth (N.owns f m0 C.k C.s1.depth) (pos+1) r
  else if b==N.iR||b==N.eK||b==N.wI||b==N.fD then N.pC f C.k C.l C.s1.depth ((N.rounds m0 C.l pos b r).1,(N.rounds m0 C.l pos b r).2.2.2) (N.rounds m0 C.l pos b r).2.1 (N.rounds m0 C.l pos b r).2.2.1
  else N.pC f C.k C.l C.s1.depth ((N.ways m0 C.l pos b).1,(N.ways m0 C.l pos b).2.2) (N.ways m0 C.l pos b).2.1 r)=C.res
def uD (C:Pb) (W:aY) (m0:N.cE) (b:List UInt8) (g:Nat):Prop:=
 bH aQ 122 #[aK (aE ⟨C.cb,0,aC⟩),bM #[aI ⟨b.toArray⟩,aH aF g]] W λe w' =>∃code,e=aM (aH aF code)/\C.Ey m0.steps code w'
theorem nC (h:C.At pos r w):w.cell? ⟨C.cb,0,aC⟩=aE (aK (aE ⟨C.rb,0,aC⟩))/\w.cell? ⟨C.cb,1,aC⟩=aE (aK (aE ⟨C.b,0,aC⟩))/\w.cell? ⟨C.cb,2,aC⟩=aE (aH aF pos)/\w.frozen? ⟨C.cb,2,aC⟩=aV:=by
 obtain⟨vL,h1,_⟩:=h;exact⟨aZ h1.c rfl,aZ h1.c rfl,aZ h1.c rfl,bG 2 h1.c⟩
theorem Ic {l:List N.Cell}{n0:Int}{b:List UInt8}(h:l[pos]?=aE ⟨4,n0,b⟩)(hd:(b==N.iR)=aV)(hl:(b==N.eK)=aV):N.dc l (pos+1)=N.dc l pos:=by
 rw[N.Be h];unfold N.UI;simp only[if_true,hd,hl,Bool.false_eq_true,if_false];omega
theorem IJ (m:N.cE)(l:List N.Cell)(p:Nat)(b:List UInt8)(hb:b=N.mM\/b=N.jQ\/b=N.eN):
 N.ways m l p b=match N.pop m with|none=>(m,0,6)|some (m1,n)=>if n=0 then(m1,N.goal l p b,0) else(m1,p+1,0):=by
 rcases hb with rfl|rfl|rfl
 all_goals
  unfold N.ways;rw[eJ (by decide)];cases N.pop m with
  |none=>rfl
  |some q=>
   obtain⟨m1,n⟩:=q;simp only;by_cases hn:n=0
   ·rw[eJ hn,eJ hn];rfl
   ·rw[dL hn,dL hn]
theorem Yh (m:N.cE)(S:List Int):N.Kept m {m with S:=S}:=N.Kept.fZ rfl
theorem RP {b:List UInt8}(h:NG C W m0 pos r f b g)(hb:b=N.mM\/b=N.jQ\/b=N.eN)(W' :aY)(oN:bA W.heap.size W W'):
 bH aQ 129 #[aK (aE ⟨C.cb,0,aC⟩),aH aF g] W' λe w' =>e=aM (aH aF (N.ways m0 C.l pos b).2.2)/\C.Ey m0.steps (N.ways m0 C.l pos b).2.2 w' :=by
 have dJ:N.pC f C.k C.l C.s1.depth ((N.ways m0 C.l pos b).1,(N.ways m0 C.l pos b).2.2) (N.ways m0 C.l pos b).2.1 r=C.res:=by
  rw[<-h.res];rcases hb with rfl|rfl|rfl <;> rfl
 rw[IJ m0 C.l pos b hb] at dJ ⊢;have pS:=jU h.go oN;have Tk:=pB h.ca oN;obtain⟨c0,c1,c2,f2⟩:=nC Tk;obtain⟨n0,hc⟩:=h.hc;have hfb:(N.fwd b||N.bwd b)=aX:=by rcases hb with rfl|rfl|rfl <;> rfl
 have CS:(b==N.iR)=aV/\(b==N.eK)=aV/\(b==N.fD)=aV:=by rcases hb with rfl|rfl|rfl <;> exact⟨rfl,rfl,rfl⟩
 have u5:=Ic hc CS.1 CS.2.1;by_cases hS:m0.S.length<1
 ·rw[RL hS] at dJ ⊢;refine(X6 W' C.cb C.rb g (λw' =>w' =W') c0 (bE (E5 h.ok pS h.st Tk 1 (bD _) (by decide) hS))).mono ?_;rintro e w' ⟨rfl,rfl⟩;refine⟨rfl,?_⟩;exact pP (m0:=m0) (m2:=m0) (Wj _ pS) dJ (N.fY rfl) h.st (N.Kept.fZ rfl) h.tA (cN h.hf) h.fu λe=>by cases e
 ·have pJ:(m0.S.drop (m0.S.length-1)).length=1:=by rw[List.length_drop];omega
  obtain⟨x,hx⟩:∃x,m0.S.drop (m0.S.length-1)=[x]:=List.length_eq_one_iff.1 pJ;rw[RG hx] at dJ ⊢;simp only at dJ ⊢;have Iz:=x5 h.ok pS h.st Tk 1 (bD _) (by decide) hS;rw[hx] at Iz;by_cases GE:x=0
  ·subst GE;rw[eJ rfl] at dJ ⊢;refine(KF W' C.cb C.rb g ((pos+1:Nat):Int) (λw' =>C.Goes {m0 with S:=m0.S.take (m0.S.length-1)} 0 w' /\C.At (pos+1) r w') c0 (bE (Iz.mono ?_))).mono ?_
   ·rintro e w' ⟨g',o,c,he,gK,CU,DR⟩;obtain⟨_,_,d2,e2⟩:=nC DR;exact⟨g',o,c,he,gK 0 0 rfl,d2,e2,CU,DR⟩
   ·rintro e w' ⟨rfl,w1,⟨Gt,j9⟩,rfl⟩;refine⟨rfl,?_⟩;obtain⟨yY,uU⟩:=jump h.ok Gt j9 (p:=g) (aH aF g) rfl;refine pP (m0:=m0) yY dJ (N.fY rfl) h.st (Yh m0 _) h.tA (cN h.hf) h.fu λ_=>?_
    rw[<-h.hg hfb];refine⟨uU,by have:=h.rl;show r.length<=m0.steps;omega,λ_=>?_⟩;have:=(h.jk.1 hfb).1;unfold N.ref at this;rw[CS.1,CS.2.1,CS.2.2] at this;simp only[Bool.or_self,Bool.false_eq_true,if_false] at this;rw[this,u5];exact h.dp
  ·rw[dL GE] at dJ ⊢;refine(V2 W' C.cb C.rb x g (by rw[beq_eq_false_iff_ne];exact GE) (λw' =>C.Goes {m0 with S:=m0.S.take (m0.S.length-1)} 0 w' /\C.At (pos+1) r w') c0 (bE (Iz.mono ?_))).mono ?_
   ·rintro e w' ⟨g',o,c,he,gK,CU,DR⟩;exact⟨g',o,c,he,gK 0 x rfl,CU,DR⟩
   ·rintro e w' ⟨rfl,Gt,j9⟩;refine⟨rfl,pP (m0:=m0) Gt dJ (N.fY rfl) h.st (Yh m0 _) h.tA (cN h.hf) h.fu λ_=>⟨j9,by have:=h.rl;show r.length<=m0.steps;omega,λ_=>?_⟩⟩;rw[u5];exact h.dp
theorem Ak {b:List UInt8}(h:NG C W m0 pos r f b g)(hb:b=N.mM\/b=N.jQ\/b=N.eN):uD C W m0 b g:=by
 have hk:=λW' oN=>RP h hb W' oN
 rcases hb with rfl|rfl|rfl
 ·refine(eo W C.cb g _ (λ_ w' =>C.Ey m0.steps _ w') (bE hk)).mono ?_;rintro e w' ⟨rfl,_,_,hd⟩;exact⟨_,rfl,hd⟩
 ·refine(KA W C.cb g _ (λ_ w' =>C.Ey m0.steps _ w') (bE hk)).mono ?_;rintro e w' ⟨rfl,_,_,hd⟩;exact⟨_,rfl,hd⟩
 ·refine(KH W C.cb g _ (λ_ w' =>C.Ey m0.steps _ w') (bE hk)).mono ?_;rintro e w' ⟨rfl,_,_,hd⟩;exact⟨_,rfl,hd⟩
theorem WH (m:N.cE)(l:List N.Cell)(p:Nat)(b:List UInt8)(hb:b=N.fA\/b=N.jW\/b=N.gB):N.ways m l p b=(m,N.goal l p b,0):=by
 rcases hb with rfl|rfl|rfl <;> rfl
theorem Gf {b:List UInt8}(h:NG C W m0 pos r f b g)(hb:b=N.fA\/b=N.jW\/b=N.gB):uD C W m0 b g:=by
 have dJ:N.pC f C.k C.l C.s1.depth ((N.ways m0 C.l pos b).1,(N.ways m0 C.l pos b).2.2) (N.ways m0 C.l pos b).2.1 r=C.res:=by
  rw[<-h.res];rcases hb with rfl|rfl|rfl <;> rfl
 rw[WH m0 C.l pos b hb] at dJ;obtain⟨n0,hc⟩:=h.hc;have hfb:(N.fwd b||N.bwd b)=aX:=by rcases hb with rfl|rfl|rfl <;> rfl
 have CS:(b==N.iR)=aV/\(b==N.eK)=aV/\(b==N.fD)=aV:=by rcases hb with rfl|rfl|rfl <;> exact⟨rfl,rfl,rfl⟩
 have u5:=Ic hc CS.1 CS.2.1;obtain⟨c0,c1,c2,f2⟩:=nC h.ca;have fin:∀w',(∃W',bA W.heap.size W W' /\w' =W'.setCell ⟨C.cb,2,aC⟩ (aH aF g))->C.Ey m0.steps 0 w' :=by
  rintro w' ⟨W',oN,rfl⟩;obtain⟨yY,uU⟩:=jump h.ok (jU h.go oN) (pB h.ca oN) (p:=g) (aH aF g) rfl;refine pP (m0:=m0) yY dJ (N.fY rfl) h.st (N.Kept.fZ rfl) h.tA (cN h.hf) h.fu λ_=>?_
  rw[<-h.hg hfb];refine⟨uU,by have:=h.rl;omega,λ_=>?_⟩;have:=(h.jk.1 hfb).1;unfold N.ref at this;rw[CS.1,CS.2.1,CS.2.2] at this;simp only[Bool.or_self,Bool.false_eq_true,if_false] at this;rw[this,u5];exact h.dp
 rcases hb with rfl|rfl|rfl
 ·exact(OU W C.cb g _ c2 f2).mono λe w' hh=>⟨0,hh.1,fin w' hh.2⟩
 ·exact(KP W C.cb g _ c2 f2).mono λe w' hh=>⟨0,hh.1,fin w' hh.2⟩
 ·exact(S9 W C.cb g _ c2 f2).mono λe w' hh=>⟨0,hh.1,fin w' hh.2⟩
theorem Ij {b:List UInt8}(h:NG C W m0 pos r f b g)(hb:b=N.iQ\/b=N.dT):uD C W m0 b g:=by
 have dJ:N.pC f C.k C.l C.s1.depth (m0,0) (pos+1) r=C.res:=by
  rw[<-h.res];rcases hb with rfl|rfl <;> rfl
 obtain⟨n0,hc⟩:=h.hc;have CS:(b==N.iR)=aV/\(b==N.eK)=aV:=by rcases hb with rfl|rfl <;> exact⟨rfl,rfl⟩
 have u5:=Ic hc CS.1 CS.2;have fin:∀w',bA W.heap.size W w' ->C.Ey m0.steps 0 w' :=λw' oN=>
  pP (m0:=m0) (jU h.go oN) dJ (N.fY rfl) h.st (N.Kept.fZ rfl) h.tA (cN h.hf) h.fu λ_=>⟨pB h.ca oN,by have:=h.rl;omega,λ_=>by rw[u5];exact h.dp⟩
 rcases hb with rfl|rfl
 ·exact(PH W C.cb g).mono λe w' hh=>⟨0,hh.1,fin w' hh.2⟩
 ·exact(JE W C.cb g).mono λe w' hh=>⟨0,hh.1,fin w' hh.2⟩
theorem Zw (h:NG C W m0 pos r f N.sW g)(cap:Nat)(a:Option Addr)(fL:∀W',bA W.heap.size W W' ->W'.cell? ⟨C.b,2,aC⟩=aE (aJ a C.l.length cap)):uD C W m0 N.sW g:=by
 have dJ:(m0,(0:Int))=C.res:=by rw[<-h.res];rfl
 obtain⟨c0,c1,c2,f2⟩:=nC h.ca;refine(NW W C.cb C.b C.l.length cap a g _ c1 c2 f2 (fL W (bF _ _))).mono ?_;rintro e w' ⟨rfl,W',oN,rfl⟩;refine⟨0,rfl,.inr ⟨rfl,?_⟩⟩;obtain⟨yY,uU⟩:=jump h.ok (jU h.go oN) (pB h.ca oN) (p:=C.l.length) (aH aF (C.l.length:Int)) rfl;obtain⟨f',hf'⟩:∃f',f=f' +1:=⟨f-1,by have:=h.fu;omega⟩
 refine⟨f,m0,C.l.length,r,yY,h.st,bD _,uU,by have:=h.rl;omega,λeQ=>by omega,h.tA,cN h.hf,h.fu,?_⟩;rw[hf',N.wQ f' m0 C.k C.l C.s1.depth C.l.length r (dZ (bD _))];exact dJ
theorem Mw (h:NG C W m0 pos r f N.kX g):uD C W m0 N.kX g:=by
 have dJ:N.pC f C.k C.l C.s1.depth ((N.owns f m0 C.k C.s1.depth).1,(N.owns f m0 C.k C.s1.depth).2) (pos+1) r=C.res:=by rw[<-h.res];rfl
 obtain⟨n0,hc⟩:=h.hc;have u5:=Ic hc rfl rfl;obtain⟨c0,c1,c2,f2⟩:=nC h.ca;refine(J5 W C.cb C.rb C.b g (N.owns f m0 C.k C.s1.depth).2 (λW' w' =>C.Goes (N.owns f m0 C.k C.s1.depth).1 (N.owns f m0 C.k C.s1.depth).2 w' /\C.At (pos+1) r w') c0 c1 (bE λW' oN=>?_)).mono ?_
 ·have pS:=jU h.go oN;have Tk:=pB h.ca oN;obtain⟨vO,v1,v2,v3,hR,hm,hf⟩:=rX h.ok pS h.st;obtain⟨e,ZD,Kt,_⟩:=h.tA;refine(h.ok.ih f h.hf W' vO v1 v2 v3 (Td C.s1 m0) m0.all C.k C.b hR h.ok.own ⟨e,ZD,Kt⟩ h.fu).mono ?_;intro ee w' hh;have Bg:Mv (iO C.mb C.rb vO v1 v2 v3 C.wv) W' w' :=by
   obtain⟨_,_,_,_,_,_,_,Bg,_⟩:=hh.2;exact Bg
  have uU:C.At (pos+1) r w' :=FH hR Tk Bg;obtain⟨d0,d1,_,_⟩:=nC uU;exact⟨hh.1,⟨d0,d1⟩,rQ (m:=m0) hm hf hh.2,uU⟩
 ·rintro e w' ⟨rfl,_,_,yY,uU⟩;refine⟨_,rfl,pP (m0:=m0) yY dJ (N.Gk f m0 C.k C.s1.depth) h.st (N.cK f m0 C.k C.s1.depth) h.tA (cN h.hf) h.fu λ_=>⟨uU,?_,λ_=>by rw[u5];exact h.dp⟩⟩;have h1:=(N.Gk f m0 C.k C.s1.depth).1;have:=h.rl;omega
theorem Ad {p:Int×Int}(h:mS w cb rb b pos vL (r++[p])):
 ∃g cap cur,vL=aJ (aE ⟨g,0,aC⟩) (r.length+1) cap/\w.heap[g]?=aE (aU cur 206)/\cur[r.length*2]?=aE (aH aF p.2)/\cur[r.length*2+1]?=aE (aH aF p.1)/\r.length+1<=cap/\cb≠g:=by
 rcases h.l.2 with ⟨_,h2⟩|⟨g,cap,cur,h1,_,hg,hle,hm,hs,ht⟩
 ·simp at h2
 ·rw[bN] at h1 hle ht;have hc:∀j u,(lV (r++[p]))[j]?=aE u->cur[j]?=aE u:=λj u hu=>by
   rw[<-ht,List.getElem?_take] at hu
   split at hu
   ·simpa using hu
   ·cases hu
  have hl:=tZ r;refine⟨g,cap,cur,h1,hg,hc _ _ ?_,hc _ _ ?_,hle,fN h.c hg (by decide)⟩
  ·rw[qF,bP (by omega),hl,Nat.sub_self];rfl
  ·rw[qF,bP (by omega),hl,show r.length*2+1-r.length*2=1 by omega];rfl
theorem JB {p:Int×Int}(h:mS w cb rb b pos vL (r++[p]))(Tf:vL.ownBlock=aE g)(c' :Int)(hc:dQ c'):
 mS (w.setCell ⟨g,r.length*2,aC⟩ (aH aF c')) cb rb b pos vL (r++[(p.1,c')]):=by
 have hl:=tZ r;refine⟨?_,?_,λq hq=>?_⟩
 ·refine(bA.heap_setCell _ _ _ _ ?_).trans h.c;rintro rfl;obtain⟨_,h'⟩:=cJ h.l Tf;have:=cM h.c h'
  revert this
  decide
 ·refine⟨by rw[tZ],?_⟩;rcases h.l.2 with ⟨_,h2⟩|⟨g',cap,cur,rfl,hb,hg,hle,hm,hs,ht⟩
  ·simp at h2
  ·have:g' =g:=by simpa[aG.ownBlock] using Tf
   subst this;refine .inr ⟨g',cap,cur.setIfInBounds (r.length*2) (aH aF c'),by simp,hb,bV hg _ _,by simpa using hle,hm,by simpa using hs,?_⟩;have hlen:(r++[(p.1,c')]).length*2=(r++[p]).length*2:=by simp
   rw[hlen];apply List.ext_getElem?;intro j;have htj:(cur.toList.take ((r++[p]).length*2))[j]?=(lV (r++[p]))[j]?:=by rw[ht]
   rw[List.getElem?_take] at htj ⊢;rw[qF] at htj ⊢;have hsz:r.length*2<cur.size:=by
    rw[hs];have:(r++[p]).length<=cap:=hle;simp at this;omega
   by_cases hj:j=r.length*2
   ·subst hj;rw[eJ (by simp)];rw[bP (by omega),hl,Nat.sub_self];simp[hsz]
   ·have e1:(cur.setIfInBounds (r.length*2) (aH aF c')).toList[j]?=cur.toList[j]?:=by
     rw[Array.getElem?_toList,Array.getElem?_toList,Array.getElem?_setIfInBounds_ne (by omega)]
    rw[e1,htj];by_cases R1:j<(lV r).length
    ·rw[bT R1,bT R1]
    ·rw[bP (by omega),bP (by omega)];obtain⟨d,hd⟩:∃d,j-(lV r).length=d+1:=⟨j-(lV r).length-1,by omega⟩
     rw[hd];rfl
 ·rcases List.mem_append.1 hq with hq|hq
  ·exact h.li q (List.mem_append_left _ hq)
  ·rw[dE] at hq;subst hq;exact⟨(h.li p (List.mem_append_right _ (dE.2 rfl))).1,hc⟩
theorem Qx {p:Int×Int}(h:mS w cb rb b pos (aJ (aE ⟨g,0,aC⟩) (r.length+1) cap) (r++[p])):
 mS (w.setCell ⟨cb,3,aC⟩ (aJ (aE ⟨g,0,aC⟩) r.length cap)) cb rb b pos (aJ (aE ⟨g,0,aC⟩) r.length cap) r:=by
 refine⟨bV h.c 3 _,?_,λq hq=>h.li q (List.mem_append_left _ hq)⟩;have hl:=h.l;rw[bN] at hl;have:=Gb hl r.length (by simp);have ht:(lV (r++[p])).take (r.length*2)=lV r:=by rw[qF,<-tZ r,List.take_left]
 rw[ht] at this;refine cV this λk e=>bA.heap_setCell _ _ _ _ ?_
 rintro rfl;obtain⟨_,h'⟩:=cJ h.l (k:=k) e;have:=cM h.c h'
 revert this
 decide
theorem Xg (h:r≠[]):∃r' p,r=r' ++[p]:=by
 rcases List.eq_nil_or_concat r with rfl|⟨r',p,rfl⟩
 ·exact(h rfl).elim
 ·exact⟨r',p,by simp⟩
theorem VZ (n:Int):dQ (aF.wrap n):=by
 rw[IntKind.wrap_i64];constructor <;> omega
theorem Tr (h:NG C W m0 pos r f N.fD g):uD C W m0 N.fD g:=by
 have dJ:N.pC f C.k C.l C.s1.depth (m0,0) (N.goal C.l pos N.fD) r.dropLast=C.res:=by rw[<-h.res];rfl
 have h1:=h.jk.2 rfl;have jD:r≠[]:=by
  rintro rfl;have:=h.dp;simp only[List.length_nil] at this;omega
 obtain⟨r',p,rfl⟩:=Xg jD;have zW:=h.hg rfl;obtain⟨vL,gQ,eY⟩:=h.ca;obtain⟨gl,cap,cur,rfl,hg,q0,q1,lU,ZG⟩:=Ad gQ;have xH:=h.rl;rw[bN] at xH;refine(KJ W C.cb gl r'.length (r'.length+1) cap g _ rfl (by have:=h.st;simp at xH;omega) lU (aZ gQ.c rfl) (bG 2 gQ.c) (aZ gQ.c rfl) (bG 3 gQ.c)).mono ?_;rintro e w' ⟨rfl,W',oN,rfl⟩;refine⟨0,rfl,?_⟩;have hcall' :=Qx (gQ.below oN);have CU :=jU h.go oN;have hgo3:C.Goes m0 0 (W'.setCell ⟨C.cb,3,aC⟩ (aJ (aE ⟨gl,0,aC⟩) r'.length cap)):=
  Cr h.ok CU (AV h.ok (pB h.ca oN)) ((Mv.refl (λk=>k=C.cb) W').setCell (p:=⟨C.cb,3,aC⟩) (.inl rfl) _)
 obtain⟨yY,uU⟩:=jump h.ok hgo3 ⟨_,hcall',eY⟩ (p:=g) (aH aF g) rfl;rw[List.dropLast_concat] at dJ;refine pP (m0:=m0) yY dJ (N.fY rfl) h.st (N.Kept.fZ rfl) h.tA (cN h.hf) h.fu λ_=>?_
 rw[<-zW];refine⟨uU,by simp at xH;omega,λ_=>?_⟩;have:=(h.jk.1 rfl).1;rw[this];show(r'.length:Int)=N.dc C.l pos-1;have MY:=h.dp;rw[bN] at MY;rw[<-MY];simp
theorem JO (h:NG C W m0 pos r f N.wI g):uD C W m0 N.wI g:=by
 have h1:=h.jk.2 rfl;have jD:r≠[]:=by
  rintro rfl;have:=h.dp;simp only[List.length_nil] at this;omega
 obtain⟨r',p,rfl⟩:=Xg jD;have dJ:N.pC f C.k C.l C.s1.depth ((N.push m0 p.2).1,(N.push m0 p.2).2) (pos+1) (r' ++[p])=C.res:=by
  rw[<-h.res];show _=N.pC f C.k C.l C.s1.depth ((N.push m0 ((r' ++[p]).getLast?.getD (0,0)).2).1,(N.push m0 ((r' ++[p]).getLast?.getD (0,0)).2).2) (pos+1) (r' ++[p]);simp
 obtain⟨n0,hc⟩:=h.hc;have u5:=Ic hc rfl rfl;obtain⟨vL,gQ,eY⟩:=h.ca;obtain⟨gl,cap,cur,rfl,hg,q0,q1,lU,ZG⟩:=Ad gQ;have xH:=h.rl;rw[bN] at xH;have nM:=(gQ.li p (List.mem_append_right _ (dE.2 rfl))).2;refine(gp W C.cb C.rb gl r'.length (r'.length+1) cap g p.2 (N.push m0 p.2).2 (λW' w' =>C.Goes (N.push m0 p.2).1 (N.push m0 p.2).2 w' /\C.At (pos+1) (r' ++[p]) w') rfl (by have:=h.st;simp at xH;omega) (aZ gQ.c rfl) (aZ gQ.c rfl) (aZ hg q0) (bE λW' oN=>?_)).mono ?_
 ·have pS:=jU h.go oN;have Tk:=gQ.below oN;obtain⟨vO,v1,v2,v3,hR,hm,hf⟩:=rX h.ok pS h.st;have htoM:fR (Td C.s1 m0) m0.all=m0:=rfl;have hlay:=J0 W' C.mb C.rb vO C.vB C.vW v1 v2 v3 C.wv (Td C.s1 m0) m0.all p.2 hR nM;rw[htoM] at hlay;refine hlay.mono ?_;intro ee w' hh;have Bg:Mv (iO C.mb C.rb vO v1 v2 v3 C.wv) W' w' :=by
   obtain⟨_,_,_,_,_,_,_,Bg,_⟩:=hh.2;exact Bg
  have uU:=Yi hR Tk Bg;obtain⟨gl2,xO,ND,En,Jw,q02,_,_,_⟩:=Ad uU;injection En with En;injection En with En;injection En with En _;subst En;exact⟨hh.1,⟨aZ uU.c rfl,aZ uU.c rfl,aZ Jw q02⟩,rQ (m:=m0) hm hf hh.2,_,uU,eY⟩
 ·rintro e w' ⟨rfl,_,_,yY,uU⟩;refine⟨_,rfl,pP (m0:=m0) yY dJ (N.fY (N.qL _ _)) h.st (N.Kept.fZ (N.rK _ _)) h.tA (cN h.hf) h.fu λ_=>⟨uU,?_,λ_=>by rw[u5];exact h.dp⟩⟩;rw[N.qL,bN];omega
theorem Zm (h:NG C W m0 pos r f N.eK g):uD C W m0 N.eK g:=by
 have h1:=h.jk.2 rfl;have jD:r≠[]:=by
  rintro rfl;have:=h.dp;simp only[List.length_nil] at this;omega
 obtain⟨r',p,rfl⟩:=Xg jD;have zW:=h.hg rfl;have hwrap:wrap64 (p.2+1)=aF.wrap (p.2+1):=by rw[IntKind.wrap_i64];unfold wrap64;omega
 have dJ:N.pC f C.k C.l C.s1.depth (m0,0) (if aF.wrap (p.2+1)<p.1 then N.goal C.l pos N.eK else pos+1) (if aF.wrap (p.2+1)<p.1 then r' ++[(p.1,aF.wrap (p.2+1))] else r')=C.res:=by
  rw[<-h.res];show _=N.pC f C.k C.l C.s1.depth ((N.rounds m0 C.l pos N.eK (r' ++[p])).1,(N.rounds m0 C.l pos N.eK (r' ++[p])).2.2.2) (N.rounds m0 C.l pos N.eK (r' ++[p])).2.1 (N.rounds m0 C.l pos N.eK (r' ++[p])).2.2.1;have hro:N.rounds m0 C.l pos N.eK (r' ++[p])=if wrap64 (p.2+1)<p.1 then(m0,N.fV C.l N.iR [N.eK] pos 0,r' ++[(p.1,wrap64 (p.2+1))],0) else(m0,pos+1,r',0):=by
   unfold N.rounds;simp only;rw[dL (by decide),eJ (by decide)];simp
  rw[hro,hwrap];by_cases hl:aF.wrap (p.2+1)<p.1
  ·rw[eJ hl,eJ hl,eJ hl];rfl
  ·rw[dL hl,dL hl,dL hl]
 obtain⟨n0,hc⟩:=h.hc;obtain⟨vL,gQ,eY⟩:=h.ca;obtain⟨gl,cap,cur,rfl,hg,q0,q1,lU,ZG⟩:=Ad gQ;have xH:=h.rl;rw[bN] at xH;have TO:r'.length<=1000:=by have:=h.st;simp at xH;omega
 have hnewg:C.w0.heap.size<=gl:=eY gl rfl;have MY:=h.dp;rw[bN] at MY
 -- the count is set,in whatever world
 have eR:∀W',bA W.heap.size W W' ->C.Goes m0 0 (W'.setCell ⟨gl,r'.length*2,aC⟩ (aH aF (aF.wrap (p.2+1))))/\mS (W'.setCell ⟨gl,r'.length*2,aC⟩ (aH aF (aF.wrap (p.2+1)))) C.cb C.rb C.b (pos+1) (aJ (aE ⟨gl,0,aC⟩) (r'.length+1) cap) (r' ++[(p.1,aF.wrap (p.2+1))]):=by
  intro W' oN;have Q0 :=gQ.below oN;refine⟨Cr h.ok (jU h.go oN) (D:=λk=>k=gl) ?_ ((Mv.refl (λk=>k=gl) W').setCell (p:=⟨gl,r'.length*2,aC⟩) (.inl rfl) _),JB Q0 rfl _ (VZ _)⟩;rintro k rfl;exact⟨Q0.block (.inr rfl),hnewg⟩
 by_cases hl:aF.wrap (p.2+1)<p.1
 ·rw[eJ hl,eJ hl,<-zW] at dJ;refine(F5 W C.cb g (λ_ w' =>C.Ey m0.steps 0 w') (bE λW' oN=>?_)).mono ?_
  ·have Q0 :=gQ.below oN;refine(RS W' C.cb gl r'.length (r'.length+1) cap cur p.1 p.2 g ((pos+1:Nat):Int) _ rfl TO lU (aZ Q0.c rfl) (aZ Q0.c rfl) (bG 2 Q0.c) (bG 3 Q0.c) ((oN.block gl (cC hg)).trans hg) q0 q1 ZG rfl hl).mono ?_;rintro e w' ⟨rfl,w1,rfl,rfl⟩;refine⟨rfl,?_⟩;obtain⟨Gt,j9⟩:=eR W' oN;have EF:=(bF (W'.setCell ⟨gl,r'.length*2,aC⟩ (aH aF (aF.wrap (p.2+1)))).heap.size (W'.setCell ⟨gl,r'.length*2,aC⟩ (aH aF (aF.wrap (p.2+1))))).drew;obtain⟨yY,uU⟩:=jump h.ok (jU Gt EF) ⟨_,j9.below EF,eY⟩ (p:=g) (aH aF g) rfl;refine pP (m0:=m0) yY dJ (N.fY rfl) h.st (N.Kept.fZ rfl) h.tA (cN h.hf) h.fu λ_=>⟨uU,by rw[bN];simp at xH ⊢;omega,λ_=>?_⟩
   have:=(h.jk.1 rfl).1;rw[this];show((r' ++[(p.1,aF.wrap (p.2+1))]).length:Int)=N.dc C.l pos;rw[<-MY,bN];simp
  ·rintro e w' ⟨rfl,_,_,hd⟩;exact⟨0,rfl,hd⟩
 ·rw[dL hl,dL hl] at dJ;refine(F5 W C.cb g (λ_ w' =>C.Ey m0.steps 0 w') (bE λW' oN=>?_)).mono ?_
  ·have Q0 :=gQ.below oN;refine(LE W' C.cb gl r'.length (r'.length+1) cap cur p.1 p.2 g ((pos+1:Nat):Int) _ rfl TO lU (aZ Q0.c rfl) (aZ Q0.c rfl) (bG 2 Q0.c) (bG 3 Q0.c) ((oN.block gl (cC hg)).trans hg) q0 q1 ZG rfl hl).mono ?_;rintro e w' ⟨rfl,w1,rfl,rfl⟩;refine⟨rfl,?_⟩;obtain⟨Gt,j9⟩:=eR W' oN;have EF:=(bF (W'.setCell ⟨gl,r'.length*2,aC⟩ (aH aF (aF.wrap (p.2+1)))).heap.size (W'.setCell ⟨gl,r'.length*2,aC⟩ (aH aF (aF.wrap (p.2+1))))).drew;have yY:=jU Gt EF;have uU:=j9.below EF;have hgo3:=Cr h.ok yY (AV h.ok ⟨_,uU,eY⟩) ((Mv.refl (λk=>k=C.cb) _).setCell (p:=⟨C.cb,3,aC⟩) (.inl rfl) (aJ (aE ⟨gl,0,aC⟩) r'.length cap));refine pP (m0:=m0) hgo3 dJ (N.fY rfl) h.st (N.Kept.fZ rfl) h.tA (cN h.hf) h.fu λ_=>⟨⟨_,Qx uU,eY⟩,by simp at xH;omega,λ_=>?_⟩
   rw[N.Be hc];show(r'.length:Int)=N.dc C.l pos+-1;rw[<-MY];simp only[List.length_singleton];omega
  ·rintro e w' ⟨rfl,_,_,hd⟩;exact⟨0,rfl,hd⟩
theorem BV (h:NG C W m0 pos r f N.iR g):uD C W m0 N.iR g:=by
 have zW:=h.hg rfl;obtain⟨n0,hc⟩:=h.hc;by_cases hS:m0.S.length<2
 ·have dJ:N.pC f C.k C.l C.s1.depth (m0,6) 0 []=C.res:=by
   rw[<-h.res];show _=N.pC f C.k C.l C.s1.depth ((N.rounds m0 C.l pos N.iR r).1,(N.rounds m0 C.l pos N.iR r).2.2.2) (N.rounds m0 C.l pos N.iR r).2.1 (N.rounds m0 C.l pos N.iR r).2.2.1;have:N.rounds m0 C.l pos N.iR r=(m0,0,[],6):=by
    unfold N.rounds;simp only;rw[eJ (by decide),eJ hS]
   rw[this]
  refine(Z2 W C.cb g 6 (λ_ w' =>C.Ey m0.steps 6 w') (bE λW' oN=>?_)).mono ?_
  ·have pS:=jU h.go oN;have Tk:=pB h.ca oN;refine(G1 W' C.cb C.rb g (λw' =>w' =W') (nC Tk).1 (bE (E5 h.ok pS h.st Tk 2 (by decide) (bD _) hS))).mono ?_;rintro e w' ⟨rfl,rfl⟩;exact⟨rfl,pP (m0:=m0) (Wj _ pS) dJ (N.fY rfl) h.st (N.Kept.fZ rfl) h.tA (cN h.hf) h.fu λe=>by cases e⟩
  ·rintro e w' ⟨rfl,_,_,hd⟩;exact⟨6,rfl,hd⟩
 ·have pJ:(m0.S.drop (m0.S.length-2)).length=2:=by rw[List.length_drop];omega
  obtain⟨x,y,hxy⟩:∃x y,m0.S.drop (m0.S.length-2)=[x,y]:=by
   match m0.S.drop (m0.S.length-2),pJ with
   |[x,y],_=>exact⟨x,y,rfl⟩
  have hgx:m0.S.getD (m0.S.length-2) 0=x:=by
   have:=List.getElem?_drop (xs:=m0.S) (i:=m0.S.length-2) (j:=0);rw[hxy] at this;rw[List.getD_eq_getElem?_getD,show m0.S.length-2=m0.S.length-2+0 by omega,<-this];rfl
  have hgy:m0.S.getD (m0.S.length-1) 0=y:=by
   have:=List.getElem?_drop (xs:=m0.S) (i:=m0.S.length-2) (j:=1);rw[hxy] at this;rw[List.getD_eq_getElem?_getD,show m0.S.length-1=m0.S.length-2+1 by omega,<-this];rfl
  have hro:N.rounds m0 C.l pos N.iR r=if x<=y then({m0 with S:=m0.S.take (m0.S.length-2)},N.goal C.l pos N.iR,r,0) else({m0 with S:=m0.S.take (m0.S.length-2)},pos+1,r++[(x,y)],0):=by
   unfold N.rounds;simp only;rw[eJ (by decide),dL hS,hgx,hgy];rfl
  have dJ:N.pC f C.k C.l C.s1.depth ((N.rounds m0 C.l pos N.iR r).1,(N.rounds m0 C.l pos N.iR r).2.2.2) (N.rounds m0 C.l pos N.iR r).2.1 (N.rounds m0 C.l pos N.iR r).2.2.1=C.res:=by rw[<-h.res];rfl
  rw[hro] at dJ;have nM:dQ x/\dQ y:=by
   obtain⟨vO,v1,v2,v3,hR,_,_⟩:=rX h.ok h.go h.st;have O6:∀z∈m0.S.drop (m0.S.length-2),dQ z:=λz hz=>hR.run.si z (List.mem_of_mem_drop hz)
   rw[hxy] at O6;exact⟨O6 x (by simp),O6 y (by simp)⟩
  by_cases hle:x<=y
  ·rw[eJ hle,<-zW] at dJ;refine(Z2 W C.cb g 0 (λ_ w' =>C.Ey m0.steps 0 w') (bE λW' oN=>?_)).mono ?_
   ·have pS:=jU h.go oN;have Tk:=pB h.ca oN;have Iz:=x5 h.ok pS h.st Tk 2 (by decide) (bD _) hS;rw[hxy] at Iz;refine(AP W' C.cb C.rb x y g ((pos+1:Nat):Int) (by omega) (λw' =>C.Goes {m0 with S:=m0.S.take (m0.S.length-2)} 0 w' /\C.At (pos+1) r w') (nC Tk).1 (bE (Iz.mono ?_))).mono ?_
    ·rintro e w' ⟨g',o,c,he,gK,CU,DR⟩;obtain⟨_,_,d2,e2⟩:=nC DR;exact⟨g',o,c,he,gK 0 x rfl,gK 1 y rfl,d2,e2,CU,DR⟩
    ·rintro e w' ⟨rfl,w1,⟨Gt,j9⟩,rfl⟩;refine⟨rfl,?_⟩;have EF:=(bF w1.heap.size w1).drew;obtain⟨yY,uU⟩:=jump h.ok (jU Gt EF) (pB j9 EF) (p:=g) (aH aF g) rfl;refine pP (m0:=m0) yY dJ (N.fY rfl) h.st (Yh m0 _) h.tA (cN h.hf) h.fu λ_=>⟨uU,by have:=h.rl;show r.length<=m0.steps;omega,λ_=>?_⟩
     have:=(h.jk.1 rfl).1;rw[this];exact h.dp
   ·rintro e w' ⟨rfl,_,_,hd⟩;exact⟨0,rfl,hd⟩
  ·rw[dL hle] at dJ;refine(Z2 W C.cb g 0 (λ_ w' =>C.Ey m0.steps 0 w') (bE λW' oN=>?_)).mono ?_
   ·have pS:=jU h.go oN;obtain⟨vL,gQ,eY⟩:=pB h.ca oN;have Tk:C.At (pos+1) r W' :=⟨vL,gQ,eY⟩
    -- the loops' row is the same behind the taking
    obtain⟨vO,v1,v2,v3,hR,hm,hf⟩:=rX h.ok pS h.st;have Iz:=Hg W' C.mb C.rb 2 vO C.vB C.vW v1 v2 v3 (Td C.s1 m0) hR.run (by decide) (bD _);have hS' :¬(Td C.s1 m0).S.length<2:=hS;simp only[dL hS'] at Iz;have hxy' :(Td C.s1 m0).S.drop ((Td C.s1 m0).S.length-2)=[x,y]:=hxy;rw[hxy'] at Iz;refine(Z7 W' C.cb C.rb C.b x y g (pos+1) (by omega) vL r (by have:=h.rl;have:=h.st;omega) nM (λw' =>C.Goes {m0 with S:=m0.S.take (m0.S.length-2)} 0 w') (nC Tk).1 (bE (Iz.mono ?_))).mono ?_
    ·rintro e w' ⟨g',o,c,x1,he,gK,vG,qV,u6⟩;refine⟨g',o,c,he,gK 0 x rfl,gK 1 y rfl,Yi hR gQ (qV.weaken λk hk=>.inl hk),?_⟩;exact rQ (m:=m0) hm hf ⟨vO,x1,v2,v3,_,vG,hR.own.mv hR.run qV,qV.weaken λk hk=>.inl hk,rV u6,rfl,rfl,rfl,rfl,λ_=>⟨rfl,rfl,rfl⟩⟩
    ·rintro e w' ⟨rfl,w1,vL',Gt,GQ,P0,Nu,hfr2⟩;refine⟨rfl,?_⟩;have yY:C.Goes {m0 with S:=m0.S.take (m0.S.length-2)} 0 w' :=Cr h.ok Gt (D:=λk=>k=C.cb\/vL.ownBlock=aE k) (λk hk=>⟨GQ.block hk,hk.elim (λe=>by rw[e];exact h.ok.hcb) (λe=>eY k e)⟩) Nu;have hnew' :∀j,vL'.ownBlock=aE j->C.w0.heap.size<=j:=λj hj=>by
      rcases hfr2 j hj with hh|hh
      ·exact eY j hh
      ·obtain⟨_,_,_,_,_,_,_,Bg,_⟩:=Gt;have:=Bg.size;omega
     refine pP (m0:=m0) yY dJ (N.fY rfl) h.st (Yh m0 _) h.tA (cN h.hf) h.fu λ_=>⟨⟨vL',P0,hnew'⟩,by have:=h.rl;rw[bN];show r.length+1<=m0.steps;omega,λ_=>?_⟩
     rw[N.Be hc,bN];show((r.length+1:Nat):Int)=N.dc C.l pos+1;rw[<-h.dp];omega
   ·rintro e w' ⟨rfl,_,_,hd⟩;exact⟨0,rfl,hd⟩
def xY (w:aY) (rb:Nat):Nat:=match w.cell? ⟨rb,3,aC⟩ with|some (aH _ p)=>p.toNat|_=>0
theorem Rk (h:eV w mb rb vO vB vW vS vR vT s):xY w rb=s.steps:=by
 have:w.cell? ⟨rb,3,aC⟩=aE (aH aF s.steps):=aZ h.r rfl;unfold xY;rw[this];simp
variable {c:N.Cell}
theorem X2 (g:Nat)(hc:lI all j c)(hl:wv.length=all.length)(hk:c.kind≠4):
 ∃T v,fB wv (c,g)=bO T v/\∀W,(bY (bO T v) 107 196 aX).run aQ W=.ok (bC #[bM #[aI ⟨#[]⟩,aH aF 0],bB aV]) W:=by
 rcases hc with ⟨h1,nM⟩|⟨h2,k,e,hn,_,he,kY⟩|⟨h3,Ja⟩|⟨h4,_⟩
 ·exact⟨_,_,eJ h1,λW=>Y3 _ W⟩
 ·have hnk:c.n.toNat=k:=by omega
  have eQ:k<wv.length:=by
   rw[hl];exact(bI.1 he).1
  obtain⟨o,ho⟩:∃o,wv[k]?=aE o:=⟨_,bL eQ⟩
  have e1:fB wv (c,g)=iW o:=by
   refine(dL (by show ¬c.kind=1;omega)).trans ((eJ h2).trans ?_);show((wv[c.n.toNat]?).map iW).getD .nilIface=_;rw[hnk,ho];rfl
  rw[e1];cases o with
  |defn b=>exact⟨_,_,rfl,λW=>RB _ W⟩
  |qW b=>exact⟨_,_,rfl,λW=>PY _ W⟩
  |cons nm t n=>exact⟨_,_,rfl,λW=>OA _ W⟩
  |mark nm t=>exact⟨_,_,rfl,λW=>OT _ W⟩
 ·obtain⟨p,hp⟩:=Option.isSome_iff_exists.1 Ja;have e1:fB wv (c,g)=bO 120 (dD p):=by
   refine(dL (by show ¬c.kind=1;omega)).trans ((dL (by show ¬c.kind=2;omega)).trans ((eJ h3).trans ?_));show((L.find c.name).map λp=>bO 120 (dD p)).getD .nilIface=_;rw[hp];rfl
  rw[e1];exact⟨_,_,rfl,λW=>OY _ W⟩
 ·exact(hk h4).elim
theorem XI {b:List UInt8}(h:NG C W m0 pos r f b g)(hb:N.inner b=aX)(cap:Nat)(a:Option Addr)(fL:∀W',bA W.heap.size W W' ->W'.cell? ⟨C.b,2,aC⟩=aE (aJ a C.l.length cap)):uD C W m0 b g:=by
 unfold N.inner at hb;simp only[List.any_cons,List.any_nil,Bool.or_false,dY,beq_iff_eq] at hb;rcases hb with rfl|rfl|rfl|rfl|rfl|rfl|rfl|rfl|rfl|rfl|rfl|rfl|rfl|rfl
 ·exact Mw h
 ·exact Ak h (.inl rfl)
 ·exact Gf h (.inl rfl)
 ·exact Ij h (.inl rfl)
 ·exact Ij h (.inr rfl)
 ·exact Ak h (.inr (.inl rfl))
 ·exact Gf h (.inr (.inl rfl))
 ·exact Ak h (.inr (.inr rfl))
 ·exact Gf h (.inr (.inr rfl))
 ·exact BV h
 ·exact Zm h
 ·exact JO h
 ·exact Tr h
 ·exact Zw h cap a fL
theorem RR (hO:C.Ok){t:Nat}{wr:aY}(hI:C.Inv t wr):ZR C.cb (λw=>∃t,C.Inv t w) (λw=>1000-xY w C.rb) C.fU wr:=by
 obtain⟨f,m,pos,r,pS,jT,_,Tk,xH,MY,pM,hf,hfu,jN⟩:=hI;obtain⟨vO,v1,v2,v3,hR,hm,Gw⟩:=rX hO pS jT;obtain⟨e,ZD,Kt,he3⟩:=pM;obtain⟨xI,vBd,body,eP,fL,hmap,hlen,hgoals⟩:=hR.own.tA C.k e _ ZD hO.own Kt;have Wx:C.l.length=body.length:=by rw[<-he3,<-hmap,dO]
 obtain⟨c0,c1,c2,f2⟩:=nC Tk;obtain⟨f',rfl⟩:∃f',f=f' +1:=⟨f-1,by omega⟩
 have EF:bA wr.heap.size wr wr.drew:=(bF _ _).drew;obtain⟨a,cap,hvB,hle,_⟩:=cU fL;subst hvB;refine⟨C.b,pos,C.l.length,cap,a,c1,c2,by rw[Wx];exact aZ eP rfl,?_⟩;by_cases sF:pos<C.l.length
 case neg=>
  refine .inl ⟨sF,?_⟩;rw[N.wQ f' m C.k C.l C.s1.depth pos r (dZ (by omega))] at jN;unfold Pb.fU;rw[<-jN];exact⟨rfl,jU pS EF⟩
 case pos=>
  refine .inr ⟨sF,?_⟩;have hposb:pos<body.length:=by omega
  obtain⟨⟨c,g⟩,hcg⟩:∃x,body[pos]?=aE x:=⟨_,bL hposb⟩
  have nQ:C.l[pos]?=aE c:=by rw[<-he3,<-hmap,cI,hcg];rfl
  have o9:lI m.all C.k c:=hR.own.ok C.k e ZD Kt c (by rw[he3];exact cG nQ);have YY:=hR.below EF;have hcad:=pB Tk EF;obtain⟨d0,d1,d2,_⟩:=nC hcad;have Vj:=Fp wr.drew C.mb C.rb vO C.vB C.vW v1 v2 v3 (Td C.s1 m) YY.run jT;have N6:xY wr C.rb=m.steps:=Rk hR.run
  -- what is done Fh on
  have lead:∀code w',C.Ey (m.steps+1) code w' ->((code≠0/\C.fU code w')\/(code=0/\(∃t,C.Inv t w')/\1000-xY w' C.rb<1000-xY wr C.rb)):=by
   rintro code w' (h|⟨h,h2⟩)
   ·exact .inl h
   ·refine .inr ⟨h,⟨_,h2⟩,?_⟩;obtain⟨_,m2,_,_,yY,hst2,ht2,_⟩:=h2;obtain⟨_,_,_,_,qT,_,_⟩:=rX hO yY hst2;have:xY w' C.rb=m2.steps:=Rk qT.run;rw[this,N6];omega
  by_cases hs:1000<=m.steps
  ·have hc:L.oI (Td C.s1 m)=(Td C.s1 m,14):=eJ (by show m.steps=1000;omega);rw[hc] at Vj;rw[N.Dm f' m C.k C.l C.s1.depth pos r c nQ hs] at jN;refine(V9 wr.drew C.cb C.rb 14 rfl (λw' =>C.Goes (N.dI m) 14 w') d0 (bE (Vj.mono ?_))).mono ?_
   ·rintro ee w' ⟨h1,h2,h3⟩;refine⟨h1,?_⟩;have sZ:Mv (iO C.mb C.rb vO v1 v2 v3 C.wv) wr.drew w' :=h3.weaken λk hk=>.inl hk
    have hmd:Mv (iO C.mb C.rb C.vO C.vS C.vR C.vT C.wv) C.w0 wr.drew:=hm.drew;exact rQ (m:=m) hmd Gw ⟨vO,v1,v2,v3,_,h2,YY.own.mv YY.run h3,sZ,dG.refl _ _,rfl,rfl,rfl,rfl,λhh=>by cases hh⟩
   ·rintro ee w' ⟨rfl,hg14⟩;refine⟨14,rfl,.inl ⟨by decide,?_⟩⟩;unfold Pb.fU;rw[<-jN];exact⟨rfl,hg14⟩
  ·have hc:L.oI (Td C.s1 m)=(Td C.s1 (N.dI m),0):=dL (by show ¬m.steps=1000;omega);rw[hc] at Vj;have UC:(N.dI m).steps<=1000:=by show m.steps+1<=1000;omega
   -- the body's row
   obtain⟨gb,Hf⟩:∃gb,a=aE ⟨gb,0,aC⟩:=by
    rcases jB fL with ⟨h1,h2,_⟩|⟨gb,mT,h1,_⟩
    ·omega
    ·injection h1 with h1;exact⟨gb,h1⟩
   subst Hf;have key:∀w1,eV w1 C.mb C.rb vO C.vB C.vW v1 v2 v3 (Td C.s1 (N.dI m))->Mv (kZ C.mb C.rb v1 v2 v3) wr.drew w1->
    C.Goes (N.dI m) 0 w1/\C.At pos r w1/\w1.cell? ⟨C.b,2,aC⟩=aE (aJ (aE ⟨gb,0,aC⟩) C.l.length cap)/\w1.cell? ⟨gb,pos,aC⟩=aE (fB C.wv (c,g)):=by
    intro w1 h2 h3;have sZ:Mv (iO C.mb C.rb vO v1 v2 v3 C.wv) wr.drew w1:=h3.weaken λk hk=>.inl hk
    have hown1:=YY.own.mv YY.run h3;have hmd:Mv (iO C.mb C.rb C.vO C.vS C.vR C.vT C.wv) C.w0 wr.drew:=hm.drew;refine⟨rQ (m:=m) hmd Gw ⟨vO,v1,v2,v3,_,h2,hown1,sZ,dG.refl _ _,rfl,rfl,rfl,rfl,λ_=>⟨rfl,rfl,rfl⟩⟩,FH YY hcad sZ,?_,?_⟩
    ·have eD:w1.heap[C.b]?=wr.heap[C.b]?:=h3.block C.b (cC eP) (jC YY.run ⟨_,_,_,eP,.inl rfl⟩);rw[Wx];exact aZ (eD.trans eP) rfl
    ·have bm:oV wr gb:=nK fL (.inl rfl) rfl;have eD:w1.heap[gb]?=wr.heap[gb]?:=h3.block gb (kH bm) (jC YY.run bm);rw[aY.cell?_of_block (w:=wr) eD];have:=fL.cells (g:=gb) rfl pos (fB C.wv (c,g)) (by rw[cI,hcg];rfl);rwa[fE,dC] at this
   -- behind 'at++'
   have aft:∀w1 W,(C.Goes (N.dI m) 0 w1/\C.At pos r w1)->bA w1.heap.size (w1.setCell ⟨C.cb,2,aC⟩ (aH aF ((pos:Int)+1))) W->C.Goes (N.dI m) 0 W/\C.At (pos+1) r W:=by
    rintro w1 W ⟨h1,h2⟩ oN;obtain⟨h3,h4⟩:=jump hO h1 h2 (p:=pos+1) (aH aF ((pos:Int)+1)) (by simp);have hbl' :bA (w1.setCell ⟨C.cb,2,aC⟩ (aH aF ((pos:Int)+1))).heap.size (w1.setCell ⟨C.cb,2,aC⟩ (aH aF ((pos:Int)+1))) W:=by
     have:(w1.setCell ⟨C.cb,2,aC⟩ (aH aF ((pos:Int)+1))).heap.size=w1.heap.size:=by simp[aY.setCell]
     rw[this];exact oN
    exact⟨jU h3 hbl',pB h4 hbl'⟩
   have hih:=Ot (hO.ih f' (by omega));have hfu' :1000-(m.steps+1)<f' :=by omega
   by_cases Gx:c.kind=4
   ·-- a bold word
    obtain⟨ck,cn,nm⟩:=c;simp only at Gx;subst Gx;rw[N.Wy f' m C.k C.l C.s1.depth pos r _ nQ hs rfl] at jN;have nM:N.inner nm=aX:=by
     rcases o9 with h|h|h|h
     ·exact absurd h.1 (show ¬(4:Nat)=1 by decide)
     ·exact absurd h.1 (show ¬(4:Nat)=2 by decide)
     ·exact absurd h.1 (show ¬(4:Nat)=3 by decide)
     ·exact h.2
    obtain⟨ai,Wk⟩:=hgoals pos _ g hcg rfl;rw[he3] at ai Wk;have hV:fB C.wv (⟨4,cn,nm⟩,g)=bO 196 (bM #[aI ⟨nm.toArray⟩,aH aF g]):=rfl;refine(JD wr.drew C.cb C.rb C.b gb C.l.length cap pos ⟨nm.toArray⟩ g (λw1=>C.Goes (N.dI m) 0 w1/\C.At pos r w1/\w1.heap[C.b]?=wr.heap[C.b]?) (λ_ code w' =>C.Ey (N.dI m).steps code w') sF (by omega) d0 (bE (Vj.mono ?_)) (bE ?_)).mono ?_
    ·rintro ee w1 ⟨h1,h2,h3⟩;obtain⟨k1,k2,k3,k4⟩:=key w1 h2 h3;obtain⟨x0,x1,x2,x3⟩:=nC k2;rw[hV] at k4;exact⟨h1,⟨x0,x1,x2,x3,k3,k4⟩,k1,k2,h3.block C.b (cC eP) (jC YY.run ⟨_,_,_,eP,.inl rfl⟩)⟩
    ·rintro w1 W ⟨k1,k2,k3⟩ oN;obtain⟨k4,k5⟩:=aft w1 W ⟨k1,k2⟩ oN;have hmid:NG C W (N.dI m) pos r f' nm g:=⟨hO,k4,UC,k5,by show r.length+1<=m.steps+1;omega,MY sF,⟨e,ZD,Kt,he3⟩,by omega,hfu',⟨cn,nQ⟩,ai,Wk,by omega,jN⟩
     refine XI hmid nM cap (aE ⟨gb,0,aC⟩) λW' Ew =>?_
     have jD:C.b≠C.cb:=by
      obtain⟨vL,Q0,_⟩:=Tk;exact fN eP Q0.c (by decide)
     have tB:W.heap[C.b]?=wr.heap[C.b]?:=by
      have Nq:C.b<w1.heap.size:=by
       rw[<-k3] at eP;exact cC eP
      exact(oN.block C.b Nq).trans ((bA.heap_setCell _ _ _ _ jD).trans k3)
     have au:=tB.trans eP;have:=(Ew.block C.b (cC au)).trans au;rw[Wx];exact aZ this rfl
    ·rintro ee w' ⟨code,rfl,w1,_,hd⟩;exact⟨code,rfl,lead code w' hd⟩
   ·-- any other word
    have TX:c.kind=1\/c.kind=2\/c.kind=3:=by
     rcases o9 with h|h|h|h
     ·exact .inl h.1
     ·exact .inr (.inl h.1)
     ·exact .inr (.inr h.1)
     ·exact(Gx h.1).elim
    rw[N.tY f' m C.k C.l C.s1.depth pos r c nQ hs TX] at jN;obtain⟨T,v,hV,r5⟩:=X2 g o9 hR.own.len Gx;have u5:N.dc C.l (pos+1)=N.dc C.l pos:=by
     rw[N.Be nQ];unfold N.UI;rw[dL Gx];omega
    refine(NT wr.drew C.cb C.rb C.b gb C.l.length cap pos T v r5 (λw1=>C.Goes (N.dI m) 0 w1/\C.At pos r w1) (λ_ code w' =>C.Ey (N.dI m).steps code w') sF (by omega) d0 (bE (Vj.mono ?_)) (bE ?_)).mono ?_
    ·rintro ee w1 ⟨h1,h2,h3⟩;obtain⟨k1,k2,k3,k4⟩:=key w1 h2 h3;obtain⟨x0,x1,x2,x3⟩:=nC k2;rw[hV] at k4;exact⟨h1,⟨x0,x1,x2,x3,k3,k4⟩,k1,k2⟩
    ·rintro w1 W ⟨k1,k2⟩ oN;obtain⟨k4,k5⟩:=aft w1 W ⟨k1,k2⟩ oN;obtain⟨yO,y1,y2,y3,Bh,Jk,cd⟩:=rX hO k4 UC;have Cd:=A9 hih W yO y1 y2 y3 (Td C.s1 (N.dI m)) (N.dI m).all Bh hfu' C.k c g o9 Gx;rw[hV] at Cd;refine Cd.mono ?_;intro ee w' hh;have Bg:Mv (iO C.mb C.rb yO y1 y2 y3 C.wv) W w' :=by
      obtain⟨_,_,_,_,_,_,_,Bg,_⟩:=hh.2;exact Bg
     refine⟨_,hh.1,?_⟩;refine pP (m0:=N.dI m) (rQ (m:=N.dI m) Jk cd hh.2) (r:=r) (next:=pos+1) jN (N.oH f' (N.dI m) C.s1.depth c) UC (N.rO f' (N.dI m) C.s1.depth c) ⟨e,ZD,Kt,he3⟩ (by omega) hfu' λ_=>⟨FH Bh k5 Bg,?_,λ_=>by rw[u5];exact MY sF⟩
     have h1:=(N.oH f' (N.dI m) C.s1.depth c).1;have h2:(N.dI m).steps=m.steps+1:=rfl;show r.length<=(N.gC f' (N.dI m) C.s1.depth c).1.steps;omega
    ·rintro ee w' ⟨code,rfl,w1,_,hd⟩;exact⟨code,rfl,lead code w' hd⟩
theorem eV.deep (h:eV w mb rb vO vB vW vS vR vT s)(d:Nat)(u:aG)(hu:u=aH aF d):
 eV (w.setCell ⟨rb,4,aC⟩ u) mb rb vO vB vW vS vR vT {s with depth:=d}:=by
 subst hu;have eR:=bV h.r 4 (aH aF d);have gZ:∀k,k≠rb->(w.setCell ⟨rb,4,aC⟩ (aH aF d)).heap[k]?=w.heap[k]?:=λk hk=>bA.heap_setCell _ _ _ _ hk
 refine⟨(gZ mb (fN h.m h.r (by decide))).trans h.m,eR,?_,?_,?_,?_,h.ap,h.sl,h.rl,h.ol,h.wl,h.si,h.ri⟩
 ·exact cK h.st λk e=>gZ k λx=>bW h.st h.r (by decide) (x▸e)
 ·exact cK h.Fv λk e=>gZ k λx=>bW h.Fv h.r (by decide) (x▸e)
 ·exact cK h.ot λk e=>gZ k λx=>bW h.ot h.r (by decide) (x▸e)
 ·exact cK h.wd λk e=>gZ k λx=>bW h.wd h.r (by decide) (x▸e)
theorem C4 (mb rb:Nat)(vB vW:aG)(wv:List Own):∀F,Yp mb rb vB vW wv F:=by
 intro F
 induction F using Nat.strongRecOn with
 |ind F ih=>
  intro w vO vS vR vT s all k b hr hwk he hf;obtain⟨e,he,kY⟩:=he;have pM:=hr.own.tA k e _ he hwk kY;have howns:N.owns F (fR s all) k s.depth=if 12<=s.depth then(fR s all,13) else N.body F (fR s all) k e.body (s.depth+1) 0 []:=by
   unfold N.owns;have:(fR s all).all[k]?=aE e:=he;rw[this];simp only;rw[dL (by rw[pM.1];decide),dL (by rw[pM.1];decide),dL (by rw[pM.1];decide)]
  rw[howns];by_cases hd:12<=s.depth
  ·rw[eJ hd];have hd12:s.depth=12:=by have:=hr.dp;omega
   have c4:w.cell? ⟨rb,4,aC⟩=aE (aH aF 12):=by
    have:w.cell? ⟨rb,4,aC⟩=aE (aH aF (s.depth:Int)):=aZ hr.run.r rfl;rw[this,hd12];rfl
   exact(BC w rb b c4).mono λr w' hh=>⟨hh.1,by rw[hh.2];exact gU.stay hr.run hr.own (bF _ _)⟩
  ·rw[dL hd];have c4:=cq 4 hr.run.r rfl;have hu:(aH aF ((s.depth:Int)+1))=aH aF ((s.depth+1:Nat):Int):=by simp
   have Sp:=hr.run.deep (s.depth+1) (aH aF ((s.depth:Int)+1)) hu;have hmv0:Mv (kZ mb rb vS vR vT) w (w.setCell ⟨rb,4,aC⟩ (aH aF ((s.depth:Int)+1))):=(Mv.refl _ _).setCell (.inl (.inr (.inl rfl))) _;have cu:=hr.own.mv hr.run hmv0;have hsz0:(w.setCell ⟨rb,4,aC⟩ (aH aF ((s.depth:Int)+1))).heap.size=w.heap.size:=by simp[aY.setCell]
   have GK:lW (w.setCell ⟨rb,4,aC⟩ (aH aF ((s.depth:Int)+1))):=eU hr.Ca (hmv0.block _ (lD hr.Ca) λhh=>hr.o4 (.inl hh));generalize Te:w.setCell ⟨rb,4,aC⟩ (aH aF ((s.depth:Int)+1))=w0 at*
   let C:Pb:=⟨mb,rb,w.heap.size,b,k,F,vO,vB,vW,vS,vR,vT,wv,{s with depth:=s.depth+1},e.body,N.body F (fR s all) k e.body (s.depth+1) 0 [],w0⟩
   have zL:lL w0 mb rb vO vB vW vS vR vT wv {s with depth:=s.depth+1} all:=⟨Sp,cu,GK,hr.o4,hr.st,by show s.depth+1<=12;omega⟩
   have hOk:C.Ok:=⟨⟨all,zL⟩,Nat.le_of_eq hsz0,hwk,ih⟩
   have tB:bA w0.heap.size w0 (w0.alloc (aU #[aK (aE ⟨rb,0,aC⟩),aK (aE ⟨b,0,aC⟩),aH aF 0,aJ aC 0 0] 163)):=(bF _ _).alloc (bD _) _;have gQ:mS (w0.alloc (aU #[aK (aE ⟨rb,0,aC⟩),aK (aE ⟨b,0,aC⟩),aH aF 0,aJ aC 0 0] 163)) w.heap.size rb b 0 (aJ aC 0 0) []:=by
    refine⟨?_,aY.ownsRow_nil _ _ _ _,λp hp=>by simp at hp⟩;rw[<-hsz0];exact heap_alloc_new w0 _
   have hInv:C.Inv 0 (w0.alloc (aU #[aK (aE ⟨rb,0,aC⟩),aK (aE ⟨b,0,aC⟩),aH aF 0,aJ aC 0 0] 163)):=
    ⟨F,fR s all,0,[],gU.stay Sp cu tB,hr.st,bZ _,⟨_,gQ,λj hj=>by simp[aG.ownBlock] at hj⟩,bZ _,λ_=>rfl,⟨e,he,kY,rfl⟩,bD _,hf,rfl⟩
   have kA:=PZ _ w.heap.size (λw=>∃t,C.Inv t w) (λw=>1000-xY w rb) C.fU ⟨0,hInv⟩ (bE λwr ⟨_,hh⟩=>RR hOk hh);refine(AD w rb b s.depth (by omega) c4 (bG 4 hr.run.r) (λcode w' =>code=(N.body F (fR s all) k e.body (s.depth+1) 0 []).2/\gU mb rb vO vB vW vS vR vT wv s (N.body F (fR s all) k e.body (s.depth+1) 0 []).1 code w w') (bE ?_)).mono ?_
   ·rw[Te];refine kA.mono ?_;rintro r w' ⟨code,rfl,hpc,yO,y1,y2,y3,s',g1,g2,g3,g4,g5,g6,g7,g8,g9⟩;have zC:s'.depth=s.depth+1:=g7;have e4:=cq 4 g1.r rfl;refine⟨code,s'.depth,rfl,e4,by omega,by omega,bG 4 g1.r,hpc,?_⟩;have hu2:(aH aF ((s'.depth:Int)-1))=aH aF ((s.depth:Nat):Int):=by rw[zC];simp
    have g1' :=g1.deep s.depth _ hu2;have Nu:Mv (kZ mb rb y1 y2 y3) w' (w'.setCell ⟨rb,4,aC⟩ (aH aF ((s'.depth:Int)-1))):=(Mv.refl _ _).setCell (.inl (.inr (.inl rfl))) _;have hN0:Mv (iO mb rb vO vS vR vT wv) w w0:=hmv0.weaken λk hk=>.inl hk
    refine⟨yO,y1,y2,y3,_,g1',g2.mv g1 Nu,?_,?_,g5,g6,rfl,g8,g9⟩
    ·exact(hN0.trans (dG.refl _ _) g3).trans ((dG.refl _ _).trans hN0.size g4) (Nu.weaken λk hk=>.inl hk)
    ·exact(dG.refl _ _).trans hN0.size g4
   ·rintro r w' ⟨code,rfl,rfl,hg⟩;exact⟨rfl,hg⟩
theorem K6 (mb rb:Nat)(vB vW:aG)(wv:List Own)(F:Nat):Hw mb rb vB vW wv F:=Ot (C4 mb rb vB vW wv F)
section
attribute [local go_sem ↓] Go.wp_at_zero Go.wp_at_succ
def fX (ps:List N.Part) (pv:List aG):List aG:=(ps.zip pv).flatMap λx=>[aI ⟨x.1.kind.toArray⟩,aH aF (x.1.start:Int),x.2]
variable {pv:List aG}
theorem nO {ps:List N.Part}(h:pv.length=ps.length):(fX ps pv).length=ps.length*3:=by
 induction ps generalizing pv with
 |nil=>simp[fX]
 |cons p t ih=>
  cases pv with
  |nil=>simp at h
  |cons v u=>
   have:=ih (pv:=u) (by simpa using h);unfold fX at this ⊢;rw[List.zip_cons_cons,List.flatMap_cons,bN,this];simp;omega
theorem pX {ps:List N.Part}(h:pv.length=ps.length)(o:N.Part)(v:aG):fX (ps++[o]) (pv++[v])=fX ps pv++[aI ⟨o.kind.toArray⟩,aH aF (o.start:Int),v]:=by
 unfold fX;rw[List.zip_append h.symm];simp
def nU (p:Nat):aG:=aH aF p
structure dM (B:Nat) (w:aY) (dd:Nat) (vD vP:aG) (pv:List aG) (wv:List Own) (d:N.iY):Prop where
 hB:B<=dd
 blk:w.heap[dd]?=aE (aU #[vD,vP] 201)
 body:w.ownsRow B 107 1 vD d.body.length (d.body.map (fB wv))
 opens:w.ownsRow B 223 3 vP d.opens.length (fX d.opens.reverse pv)
 xP:pv.length=d.opens.reverse.length
 waits:∀(i:Nat) (o:N.Part) (v:aG),d.opens.reverse[i]?=aE o->pv[i]?=aE v->w.ownsRow B 3 1 v o.waits.length (o.waits.map nU)
 apart:∀(i j:Nat) (v u:aG) (k:Nat),pv[i]?=aE v->pv[j]?=aE u->v.ownBlock=aE k->u.ownBlock=aE k->i=j
 small:d.body.length<=60
 vI:d.opens.length<=60
 low:∀o∈d.opens,o.start<=60/\o.waits.length<=60/\∀p∈o.waits,p<d.body.length
variable {B dd:Nat}{vD vP:aG}
theorem dM.kept {d:N.iY}(h:dM B w dd vD vP pv wv d)(hk:∀k,k=dd\/vD.ownBlock=aE k\/vP.ownBlock=aE k\/(∃v∈pv,v.ownBlock=aE k)->w'.heap[k]?=w.heap[k]?):dM B w' dd vD vP pv wv d:=
 ⟨h.hB,(hk dd (.inl rfl)).trans h.blk,cV h.body λk e=>hk k (.inr (.inl e)),cV h.opens λk e=>hk k (.inr (.inr (.inl e))),h.xP,λi o v h1 h2=>cV (h.waits i o v h1 h2) λk e=>hk k (.inr (.inr (.inr ⟨v,cG h2,e⟩))),h.apart,h.small,h.vI,h.low⟩
theorem dM.lt {d:N.iY}(h:dM B w dd vD vP pv wv d)(hk:k=dd\/vD.ownBlock=aE k\/vP.ownBlock=aE k\/(∃v∈pv,v.ownBlock=aE k)):k<w.heap.size:=by
 rcases hk with rfl|hk|hk|⟨v,hv,hk⟩
 ·exact cC h.blk
 ·exact(h.body.lt k hk).2
 ·exact(h.opens.lt k hk).2
 ·obtain⟨i,hi⟩:=List.getElem?_of_mem hv;have eQ:i<d.opens.reverse.length:=by
   rw[<-h.xP];exact(bI.1 hi).1
  exact((h.waits i _ v (bL eQ) hi).lt k hk).2
theorem dM.below {d:N.iY}(h:dM B w dd vD vP pv wv d)(hb:bA w.heap.size w w'):dM B w' dd vD vP pv wv d:=
 h.kept λk hk=>hb.block k (h.lt hk)
variable {z:Nat}{v:aG}
theorem qC (h:w.ownsRow B e z v n xs)(hk:v.ownBlock=aE k):B<=k:=(h.lt k hk).1
variable {t:TypeId}
theorem wH {c:Array aG}{f:Nat×Nat}(h:w.ownsRow B e z v n xs)(hk:w.heap[k]?=aE (aU c t f))(ht:t≠e):v.ownBlock≠aE k:=λhv=>by
 obtain⟨cur,hc⟩:=cJ h hv;exact ht (cM hk hc)
theorem KC (w:aY)(dd g n cap p:Nat)(nm:ByteArray)(g0 goal:Int)(hp:p<n)(hd0:w.cell? ⟨dd,0,aC⟩=aE (aJ (aE ⟨g,0,aC⟩) n cap))(hc:w.cell? ⟨g,p,aC⟩=aE (bO 196 (bM #[aI nm,aH aF g0])))(hf:w.frozen? ⟨g,p,aC⟩=aV):
 bH aQ 146 #[aK (aE ⟨dd,0,aC⟩),aH aF p,aH aF goal] w λr w' =>r=aM (bC #[])/\∃W,bA w.heap.size w W/\w' =W.setCell ⟨g,p,aC⟩ (bO 196 (bM #[aI nm,aH aF goal])):=by
 have r5:=FP (bM #[aI nm,aH aF g0]);have k0:(0:Int)<=(p:Int):=by omega
 have k1:(p:Int)<(n:Int):=by omega
 have e0:(w.alloc (aU #[aI nm,aH aF goal] 196)).cell? ⟨dd,0,aC⟩=aE (aJ (aE ⟨g,0,aC⟩) n cap):=bJ hd0 _;have e1:(w.alloc (aU #[aI nm,aH aF goal] 196)).cell? ⟨g,p,aC⟩=aE (bO 196 (bM #[aI nm,aH aF g0])):=bJ hc _;have e2:(w.alloc (aU #[aI nm,aH aF goal] 196)).frozen? ⟨g,p,aC⟩=aV:=cY (bU w _ aC) hc hf (by simp);have e4:(w.alloc (aU #[aI nm,aH aF goal] 196)).cell? ⟨w.heap.size,0,aC⟩=aE (aI nm):=aZ (heap_alloc_new w _) rfl;have e5:(w.alloc (aU #[aI nm,aH aF goal] 196)).cell? ⟨w.heap.size,1,aC⟩=aE (aH aF goal):=aZ (heap_alloc_new w _) rfl;have hb:bA w.heap.size w (w.alloc (aU #[aI nm,aH aF goal] 196)):=(bF _ _).alloc (bD _) _;go_enter func146,ntmps146;go_wp2;generalize(w.alloc (aU #[aI nm,aH aF goal] 196))=w1 at*;go_region_law (fail)
 all_goals (go_wp2;go_end0;exact⟨rfl,w1.drew,hb.drew,rfl⟩)
theorem Eb (h:w.ownsRow B e z (aJ (aE ⟨g,0,aC⟩) n cap) n xs)(j:Nat)(hj:j<n*z)(u:aG):(w.setCell ⟨g,j,aC⟩ u).ownsRow B e z (aJ (aE ⟨g,0,aC⟩) n cap) n (xs.set j u):=by
 refine⟨by rw[List.length_set];exact h.1,?_⟩;rcases h.2 with ⟨h1,_⟩|⟨g',mT,cur,h1,hb,hg,hle,hm,hs,ht⟩
 ·cases h1
 ·injection h1 with h1 _ h2;injection h1 with h1;injection h1 with h1;subst h1 h2;refine .inr ⟨g,cap,cur.setIfInBounds j u,rfl,hb,bV hg j u,hle,hm,by simpa using hs,?_⟩;rw[<-ht];apply List.ext_getElem?;intro i;rw[List.getElem?_take,List.getElem?_set,List.getElem?_take,Array.getElem?_toList,Array.getElem?_setIfInBounds];have lU:n*z<=cap*z:=Nat.mul_le_mul_right z hle;by_cases hi:j=i
  ·subst hi;rw[eJ hj,eJ rfl,eJ rfl,eJ (by omega),eJ (by rw[dH,Array.length_toList];omega)]
  ·rw[dL hi,dL hi,Array.getElem?_toList]
theorem dM.mP {d:N.iY}(h:dM B w dd vD vP pv wv d):
 vD.ownBlock≠aE dd/\vP.ownBlock≠aE dd/\(∀k,vD.ownBlock=aE k->vP.ownBlock≠aE k)/\(∀v∈pv,v.ownBlock≠aE dd/\(∀k,vD.ownBlock=aE k->v.ownBlock≠aE k)/\(∀k,vP.ownBlock=aE k->v.ownBlock≠aE k)):=by
 refine⟨wH h.body h.blk (by decide),wH h.opens h.blk (by decide),λk hk=>?_,λv hv=>?_⟩
 ·obtain⟨cur,hc⟩:=cJ h.body hk;exact wH h.opens hc (by decide)
 ·obtain⟨i,hi⟩:=List.getElem?_of_mem hv;have eQ:i<d.opens.reverse.length:=by
   rw[<-h.xP];exact(bI.1 hi).1
  have hw:=h.waits i _ v (bL eQ) hi;refine⟨wH hw h.blk (by decide),λk hk=>?_,λk hk=>?_⟩
  ·obtain⟨cur,hc⟩:=cJ h.body hk;exact wH hw hc (by decide)
  ·obtain⟨cur,hc⟩:=cJ h.opens hk;exact wH hw hc (by decide)
theorem dM.setBody {d:N.iY}(h:dM B w dd (aJ (aE ⟨g,0,aC⟩) d.body.length cap) vP pv wv d)(p:Nat)(hp:p<d.body.length)(u:aG)(b' :List (N.Cell×Nat))(hb:b'.length=d.body.length)(Ew :b'.map (fB wv)=(d.body.map (fB wv)).set p u):
 dM B (w.setCell ⟨g,p,aC⟩ u) dd (aJ (aE ⟨g,0,aC⟩) d.body.length cap) vP pv wv ⟨b',d.opens⟩:=by
 obtain⟨n1,n2,n3,n4⟩:=h.mP;have gZ:∀k,k≠g->(w.setCell ⟨g,p,aC⟩ u).heap[k]?=w.heap[k]?:=λk hk=>bA.heap_setCell _ _ _ _ hk
 refine⟨h.hB,(gZ dd λe=>n1 (by rw[e];rfl)).trans h.blk,?_,cV h.opens λk e=>gZ k λe2=>n3 g rfl (e2▸e),h.xP,λi o v h1 h2=>cV (h.waits i o v h1 h2) λk e=>gZ k λe2=>(n4 v (cG h2)).2.1 g rfl (e2▸e),h.apart,?_,h.vI,?_⟩
 ·show aY.ownsRow _ _ _ _ _ b'.length (b'.map _);rw[hb,Ew];exact Eb h.body p (by omega) u
 ·show b'.length<=60;rw[hb];exact h.small
 ·show ∀o∈d.opens,_/\_/\∀p∈o.waits,p<b'.length;rw[hb];exact h.low
theorem OX (wv:List Own)(b:List (N.Cell×Nat))(p goal:Nat)(c:N.Cell)(g0:Nat)(hc:b[p]?=aE (c,g0))(u:aG)(hu:fB wv (c,goal)=u):(N.qK b p goal).map (fB wv)=(b.map (fB wv)).set p u:=by
 apply List.ext_getElem?;intro i;rw[cI,N.qK,List.getElem?_modify,List.getElem?_set,cI];by_cases hi:p=i
 ·subst hi;rw[hc,eJ rfl,eJ (by rw[dO];exact(bI.1 hc).1)];show aE (fB wv (if p=p then(c,goal) else(c,g0)))=aE u;rw[eJ rfl,hu]
 ·rw[dL hi];cases b[i]? with
  |none=>rfl
  |some x=>
   show aE (fB wv (if p=i then(x.1,goal) else x))=aE (fB wv x);rw[dL hi]
theorem Df (B:Nat)(w:aY)(dd:Nat)(vD vP:aG)(pv:List aG)(wv:List Own)(d:N.iY)(p goal:Nat)(c:N.Cell)(g0:Nat)(h:dM B w dd vD vP pv wv d)(hc:d.body[p]?=aE (c,g0))(hk:c.kind=4):
 bH aQ 146 #[aK (aE ⟨dd,0,aC⟩),aH aF p,aH aF goal] w λr w' =>r=aM (bC #[])/\dM B w' dd vD vP pv wv ⟨N.qK d.body p goal,d.opens⟩/\bA B w w' :=by
 have hp:=(bI.1 hc).1;obtain⟨g,cap,rfl,hBg,_⟩:=h.body.form (by omega);have hcv:∀x,fB wv (c,x)=bO 196 (bM #[aI ⟨c.name.toArray⟩,aH aF x]):=λx=>by
  unfold fB;simp only;rw[dL (by omega),dL (by omega),dL (by omega)]
 have gK:=h.body.cells (g:=g) rfl p (fB wv (c,g0)) (by rw[cI,hc];rfl);rw[fE,dC,hcv] at gK;obtain⟨cur,Nx⟩:=cJ h.body (k:=g) rfl;refine(KC w dd g d.body.length cap p ⟨c.name.toArray⟩ g0 goal hp (aZ h.blk rfl) gK (bG p Nx)).mono ?_;rintro r w' ⟨rfl,W,hb,rfl⟩;refine⟨rfl,(h.below hb).setBody p hp _ _ (by unfold N.qK;rw[List.length_modify]) (OX wv d.body p goal c g0 hc _ (hcv goal)),?_⟩;have hBw:B<=w.heap.size:=cF h.hB (cN (cC h.blk));exact(hb.mono hBw).setCell hBg _
theorem IG (w:aY)(dd gP n m cP gw mw cw nb cD:Nat)(aD aw:Option Addr)(Inv:Nat->aY->Prop)(hn:n=m+1)(hm60:n<=60)(bh:n<=cP)(am:mw<=60)(haw:aw=aE ⟨gw,0,aC⟩\/mw=0)(h0:Inv 0 w)(e1:w.cell? ⟨dd,1,aC⟩=aE (aJ (aE ⟨gP,0,aC⟩) n cP))(e2:w.cell? ⟨gP,m*3+2,aC⟩=aE (aJ aw mw cw))(HI:Hid (∀k wr,Inv k wr->k<=mw->wr.cell? ⟨dd,0,aC⟩=aE (aJ aD nb cD)/\wr.cell? ⟨dd,1,aC⟩=aE (aJ (aE ⟨gP,0,aC⟩) n cP)/\wr.frozen? ⟨dd,1,aC⟩=aV/\(k<mw->∃p:Nat,wr.cell? ⟨gw,k,aC⟩=aE (aH aF p)/\bH aQ 146 #[aK (aE ⟨dd,0,aC⟩),aH aF p,aH aF nb] wr λr w' =>r=aM (bC #[])/\Inv (k+1) w'))):
 bH aQ 145 #[aK (aE ⟨dd,0,aC⟩)] w λr w' =>r=aM (bC #[])/\∃W,Inv mw W/\w' =W.setCell ⟨dd,1,aC⟩ (aJ (aE ⟨gP,0,aC⟩) m cP):=by
 have i0:aF.wrap ((n:Int)-1)=(m:Int):=wj;have i1:(0:Int)<=(m:Int):=by omega
 have i2:(m:Int)<(n:Int):=by omega
 have i3:(m:Int)<=(cP:Int):=by omega
 have i4:(m:Int)<=(n:Int):=by omega
 have Hn:=bE hn;have H0:=bE h0;clear hn h0;go_enter func145,ntmps145;go_wp2
 go_loopw [20] (λi wr=>∃k:Nat,k<=mw/\i=aH aF k/\Inv k wr) (λi _=>match i with|aH _ k=>mw-k.toNat|_=>0)
 case atStart=>exact⟨0,bZ _,rfl,aN H0⟩
 case round=>
  obtain⟨k,hk,rfl,hI⟩:=hrel;obtain⟨d0,d1,f1,gQ⟩:=aN HI k wr hI hk;by_cases NN:k<mw
  ·obtain⟨p,hp,hc⟩:=gQ NN;have HC:=bE hc;have haw:aw=aE ⟨gw,0,aC⟩:=by rcases haw with h|h;exact h;omega
   subst haw;have k1:(k:Int)<(mw:Int):=by omega
   have k2:(0:Int)<=(k:Int):=by omega
   have k3:=wi ((k:Int)+1);clear gQ hc hI;go_wp2_with fail
   refine(aN HC).mono ?_;rintro e w2 ⟨rfl,ek⟩;have UP:=bE ek;clear ek;go_wp2;refine⟨⟨k+1,by omega,by simp,aN UP⟩,?_⟩;show mw-((k:Int)+1).toNat<mw-(k:Int).toNat;omega
  ·have hke:k=mw:=by omega
   have HI3:=bE hI;have k1:¬((k:Int)<(mw:Int)):=by omega
   clear gQ hI;go_wp2;go_end0;exact⟨rfl,wr,by rw[<-hke];exact aN HI3,rfl⟩
theorem dM.last {b:List (N.Cell×Nat)}{o:N.Part}{t:List N.Part}(h:dM B w dd vD vP pv wv ⟨b,o::t⟩):
 ∃rL v gP cP,pv=rL ++[v]/\rL.length=t.reverse.length/\vP=aJ (aE ⟨gP,0,aC⟩) (t.length+1) cP/\t.length+1<=cP/\B<=gP/\w.cell? ⟨gP,t.length*3,aC⟩=aE (aI ⟨o.kind.toArray⟩)/\w.cell? ⟨gP,t.length*3+1,aC⟩=aE (aH aF (o.start:Int))/\w.cell? ⟨gP,t.length*3+2,aC⟩=aE v/\
  w.ownsRow B 3 1 v o.waits.length (o.waits.map nU):=by
 have nV:pv.length=t.length+1:=by have:=h.xP;simpa using this
 obtain⟨rL,v,rfl⟩:∃rL v,pv=rL ++[v]:=by
  rcases List.eq_nil_or_concat pv with rfl|⟨a,x,rfl⟩
  ·simp at nV
  ·exact⟨a,x,by simp⟩
 have UM :rL.length=t.reverse.length:=by simpa using nV
 have Sr:=h.opens;have sC:(o::t).reverse=t.reverse++[o]:=by simp
 simp only[cX,sC] at Sr;rw[pX UM] at Sr;obtain⟨gP,cP,Jx,VR,_⟩:=Sr.form (by omega);have hle:t.length+1<=cP:=by
  rcases Sr.2 with ⟨_,h2⟩|⟨g',c',_,h1,_,_,h2,_⟩
  ·omega
  ·rw[Jx] at h1;injection h1 with _ _ h1;omega
 have hlen:=nO UM;rw[List.length_reverse] at hlen;have hc:∀j u,(fX t.reverse rL ++[aI ⟨o.kind.toArray⟩,aH aF (o.start:Int),v])[j]?=aE u->w.cell? ⟨gP,j,aC⟩=aE u:=λj u hu=>by
  have:=Sr.cells (g:=gP) (by rw[Jx];rfl) j u hu;rwa[fE,dC] at this
 refine⟨rL,v,gP,cP,rfl,UM,Jx,hle,VR,hc _ _ ?_,hc _ _ ?_,hc _ _ ?_,?_⟩
 ·rw[bP (by omega),hlen,Nat.sub_self];rfl
 ·rw[bP (by omega),hlen,show t.length*3+1-t.length*3=1 by omega];rfl
 ·rw[bP (by omega),hlen,show t.length*3+2-t.length*3=2 by omega];rfl
 ·refine h.waits t.length o v ?_ ?_
  ·show(o::t).reverse[t.length]?=aE o;rw[sC,bP (by simp),List.length_reverse,Nat.sub_self];rfl
  ·rw[bP (by rw[UM,List.length_reverse];exact bD _),UM,List.length_reverse,Nat.sub_self];rfl
theorem dM.pop {gP cP:Nat}{b:List (N.Cell×Nat)}{o:N.Part}{t:List N.Part}(h:dM B w dd vD (aJ (aE ⟨gP,0,aC⟩) (t.length+1) cP) (pv++[v]) wv ⟨b,o::t⟩)(nV:pv.length=t.reverse.length):
 dM B (w.setCell ⟨dd,1,aC⟩ (aJ (aE ⟨gP,0,aC⟩) t.length cP)) dd vD (aJ (aE ⟨gP,0,aC⟩) t.length cP) pv wv ⟨b,t⟩:=by
 obtain⟨n1,n2,n3,n4⟩:=h.mP;have gZ:∀k,k≠dd->(w.setCell ⟨dd,1,aC⟩ (aJ (aE ⟨gP,0,aC⟩) t.length cP)).heap[k]?=w.heap[k]?:=λk hk=>bA.heap_setCell _ _ _ _ hk
 have sC:(o::t).reverse=t.reverse++[o]:=by simp
 have Sr:=h.opens;simp only[cX,sC] at Sr;rw[pX nV] at Sr;have hlen:=nO nV;rw[List.length_reverse] at hlen;have Iz:=Gb Sr t.length (by omega);rw[<-hlen,List.take_left] at Iz;have eQ:∀i x,t.reverse[i]?=aE x->(o::t).reverse[i]?=aE x:=λi x hx=>by
  rw[sC,bT (bI.1 hx).1];exact hx
 have hpv:∀i x,pv[i]?=aE x->(pv++[v])[i]?=aE x:=λi x hx=>by
  rw[bT (bI.1 hx).1];exact hx
 refine⟨h.hB,bV h.blk 1 _,cV h.body λk e=>gZ k λe2=>n1 (e2▸e),cV Iz λk e=>gZ k λe2=>n2 (e2▸e),nV,λi x u h1 h2=>cV (h.waits i x u (eQ i x h1) (hpv i u h2)) λk e=>gZ k λe2=>(n4 u (List.mem_append_left _ (cG h2))).1 (e2▸e),λi j x u k h1 h2=>h.apart i j x u k (hpv i x h1) (hpv j u h2),h.small,?_,λx hx=>h.low x (List.mem_cons_of_mem _ hx)⟩;have:=h.vI;simp only[cX] at this;show t.length<=60;omega
theorem BN (b:List (N.Cell×Nat))(ps:List Nat)(g k:Nat)(p:Nat)(hp:ps[k]?=aE p):N.mX b (ps.take (k+1)) g=N.qK (N.mX b (ps.take k) g) p g:=by
 have eQ:=(bI.1 hp).1;have he:=(bI.1 hp).2;rw[dF eQ,he];unfold N.mX;rw[List.foldl_append];rfl
theorem JC (b:List (N.Cell×Nat))(ps:List Nat)(g:Nat):(N.mX b ps g).length=b.length:=by
 have:=congrArg List.length (N.oO ps g b);simpa using this
theorem wT {b:List (N.Cell×Nat)}(ps:List Nat)(g:Nat){g0:Nat}(h:b[p]?=aE (c,g0)):∃g1,(N.mX b ps g)[p]?=aE (c,g1):=by
 have:=congrArg (λl=>l[p]?) (N.oO ps g b);simp only[cI,h] at this;cases hx:(N.mX b ps g)[p]? with
 |none=>rw[hx] at this;cases this
 |some x=>
  rw[hx] at this;injection this with this;have h2:x.1=c:=this;exact⟨x.2,by rw[<-h2]⟩
theorem zG (B:Nat)(w:aY)(dd:Nat)(vD vP:aG)(pv:List aG)(wv:List Own)(b:List (N.Cell×Nat))(o:N.Part)(t:List N.Part)(h:dM B w dd vD vP pv wv ⟨b,o::t⟩)(hw:∀p∈o.waits,∃c g,b[p]?=aE (c,g)/\c.kind=4):
 bH aQ 145 #[aK (aE ⟨dd,0,aC⟩)] w λr w' =>r=aM (bC #[])/\∃sU rL,dM B w' dd vD sU rL wv (N.shut ⟨b,o::t⟩)/\bA B w w' :=by
 obtain⟨rL,v,gP,cP,rfl,nV,rfl,bh,VR,_,_,c2,zZ⟩:=h.last;have Dl:=h.low o eF;obtain⟨aD,cD,CZ,_,_⟩:=cU h.body;obtain⟨aw,cw,hv,_,qJ⟩:=cU zZ;obtain⟨gw,ZL⟩:∃gw,aw=aE ⟨gw,0,aC⟩\/o.waits.length=0:=by
  rcases jB (w:=w) (e:=3) (n:=o.waits.length) (v:=v) (xs:=o.waits.map nU) ⟨zZ.1,by
   rcases zZ.2 with x|⟨g,c,cur,x1,_,x2⟩
   ·exact .inl x
   ·exact .inr ⟨g,c,cur,x1,bZ _,x2⟩⟩ with ⟨_,h2,_⟩|⟨g,c,h1,_⟩
  ·exact⟨0,.inr h2⟩
  ·rw[hv] at h1;injection h1 with h1;exact⟨g,.inl h1⟩
 subst hv CZ;have sD:=h.vI;simp only[cX] at sD;refine(IG w dd gP (t.length+1) t.length cP gw o.waits.length cw b.length cD aD aw (λk wr=>dM B wr dd (aJ aD b.length cD) (aJ (aE ⟨gP,0,aC⟩) (t.length+1) cP) (rL ++[aJ aw o.waits.length cw]) wv ⟨N.mX b (o.waits.take k) b.length,o::t⟩/\bA B w wr) rfl sD bh Dl.2.1 ZL ⟨by simpa[N.mX] using h,bF _ _⟩ (aZ h.blk rfl) c2 (bE λk wr hI hk=>?_)).mono ?_
 ·obtain⟨hd,hb⟩:=hI;refine⟨aZ hd.blk rfl,aZ hd.blk rfl,bG 1 hd.blk,λeQ=>?_⟩;obtain⟨p,hp⟩:∃p,o.waits[k]?=aE p:=⟨_,bL eQ⟩
  obtain⟨c,g0,hc,Gx⟩:=hw p (cG hp);obtain⟨g1,zX⟩:=wT (o.waits.take k) b.length hc;have hgw' :aw=aE ⟨gw,0,aC⟩:=by rcases ZL with x|x;exact x;omega
  subst hgw';refine⟨p,?_,(Df B wr dd _ _ _ wv _ p b.length c g1 hd zX Gx).mono λr w' hh=>⟨hh.1,?_,hb.trans hh.2.2⟩⟩
  ·obtain⟨_,v2,_,_,hpe,hpl2,_,_,_,_,_,_,hwr2⟩:=hd.last;have En:v2=aJ (aE ⟨gw,0,aC⟩) o.waits.length cw:=by
    have:=congrArg List.getLast? hpe;simpa using this.symm
   subst En;have:=hwr2.cells (g:=gw) rfl k (nU p) (by rw[cI,hp];rfl);rwa[fE,dC] at this
  ·rw[BN b o.waits b.length k p hp];exact hh.2.1
 ·rintro r w' ⟨rfl,W,⟨hd,hb⟩,rfl⟩;refine⟨rfl,aJ (aE ⟨gP,0,aC⟩) t.length cP,rL,?_,hb.setCell h.hB _⟩;rw[List.take_length] at hd;exact hd.pop nV
theorem BR (w:aY)(dd cP:Nat)(a:Option Addr)(e1:w.cell? ⟨dd,1,aC⟩=aE (aJ a 0 cP)):
 bH aQ 138 #[aK (aE ⟨dd,0,aC⟩)] w λr w' =>r=aM (aI ⟨#[]⟩)/\w' =w:=by
 go_enter func138,ntmps138;go_wp2;go_ret;exact⟨rfl,rfl⟩
theorem V4 (w:aY)(dd gP n m cP:Nat)(kd:ByteArray)(hn:n=m+1)(YP:n<=60)(e1:w.cell? ⟨dd,1,aC⟩=aE (aJ (aE ⟨gP,0,aC⟩) n cP))(e2:w.cell? ⟨gP,m*3,aC⟩=aE (aI kd)):
 bH aQ 138 #[aK (aE ⟨dd,0,aC⟩)] w λr w' =>r=aM (aI kd)/\w' =w.drew:=by
 have i0:aF.wrap ((n:Int)-1)=(m:Int):=wj;have i1:(0:Int)<=(m:Int):=by omega
 have i2:(m:Int)<(n:Int):=by omega
 have i3:((n:Int)==0)=aV:=by rw[beq_eq_false_iff_ne];omega
 clear hn YP;go_enter func138,ntmps138;go_wp2;go_region_held3 (λw' =>w'.cell? ⟨dd,1,aC⟩=aE (aJ (aE ⟨gP,0,aC⟩) n cP)/\w'.cell? ⟨gP,m*3,aC⟩=aE (aI kd)) (first|exact⟨e1,e2⟩|go_keep) (fail)
 go_wp2;go_ret;exact⟨rfl,rfl⟩
def yX (ks:List (List UInt8)):Nat->Option Nat
 |0=>aC
 |k+1=>if ks[k]?=aE N.iR then aE k else yX ks k
def ZT (g:Nat):Option Nat->aG
 |none=>aK aC
 |some k=>aK (aE ⟨g,k*3,aC⟩)
theorem xB (w:aY)(dd gP cP:Nat)(ks:List (List UInt8))(YP:ks.length<=60)(e1:w.cell? ⟨dd,1,aC⟩=aE (aJ (aE ⟨gP,0,aC⟩) ks.length cP))(e2:∀j k,ks[j]?=aE k->w.cell? ⟨gP,j*3,aC⟩=aE (aI ⟨k.toArray⟩)):
 bH aQ 139 #[aK (aE ⟨dd,0,aC⟩)] w λr w' =>r=aM (ZT gP (yX ks ks.length))/\w' =w:=by
 have E2:=bE e2;clear e2;generalize Ru:ks.length=n at*;go_enter func139,ntmps139;go_wp2
 go_loop [3] (λi=>∃k:Nat,k<=n/\i=aH aF ((k:Int)-1)/\yX ks k=yX ks n) (λi=>match i with|aH _ k=>(k+1).toNat|_=>0)
 case atStart=>exact⟨n,bD _,rfl,rfl⟩
 case round=>
  obtain⟨k,hk,rfl,hl⟩:=hrel;cases k with
  |zero=>
   have HL:=bE hl;clear hl;go_wp2;go_ret;refine⟨Al ?_,rfl⟩;rw[<-aN HL];rfl
  |succ k=>
   have eQ:k<ks.length:=by omega
   obtain⟨kd,Ha⟩:∃kd,ks[k]?=aE kd:=⟨_,bL eQ⟩
   have c2:=aN E2 k kd Ha;have k1:(k:Int)<(n:Int):=by omega
   have e0:((k+1:Nat):Int)-1=(k:Int):=by omega
   have lC:yX ks (k+1)=if kd=N.iR then aE k else yX ks k:=by
    show(if ks[k]?=aE N.iR then aE k else yX ks k)=_;rw[Ha];simp
   rw[lC] at hl;rw[e0];have HL:=bE hl;clear hl lC Ha eQ;by_cases hq:kd=N.iR
   ·have hq' :(kd==[100,111])=aX:=by rw[beq_iff_eq];exact hq
    have uP:=bE ((eJ hq).symm.trans (aN HL));clear hq HL;go_wp2;go_ret;refine⟨Al ?_,rfl⟩;rw[<-aN uP];rfl
   ·have hq' :(kd==[100,111])=aV:=by rw[beq_eq_false_iff_ne];exact hq
    have uP:=bE ((dL hq).symm.trans (aN HL));clear hq HL;go_wp2;refine⟨⟨k,by omega,rfl,aN uP⟩,?_⟩;show((k:Int)-1+1).toNat<((k:Int)+1).toNat;omega
theorem Qd (w:aY)(dd:Nat)(e1:w.cell? ⟨dd,1,aC⟩=aE (aJ aC 0 0)):
 bH aQ 139 #[aK (aE ⟨dd,0,aC⟩)] w λr w' =>r=aM (aK aC)/\w' =w:=by
 go_enter func139,ntmps139;go_wp2
 go_loop [3] (λi=>i=aH aF (-1)) (λ_=>0)
 case atStart=>rfl
 case round=>
  obtain rfl:=hrel;go_wp2;go_ret;exact⟨rfl,rfl⟩
end
end Go.Proofs.YtgnlokmeohffaaaGreatDoor
