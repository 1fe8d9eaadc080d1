/- Parts of the proof: see the last text. -/
import Derived.Test.YtgnlokmeohffaaaGreatDoorG11
namespace Go.Proofs.YtgnlokmeohffaaaGreatDoor
set_option maxRecDepth 100000
set_option maxHeartbeats 12800000
open Option renaming none → aC, some → aE
open Go renaming IntKind.i64 → aF, Value → aG, Value.int → aH, Value.string → aI, Value.slice → aJ, Value.pointer → aK, Ending.returned → aM, Obj.cells → aU, World → aY, Value.tuple → bC, Value.bool → bB, Calls → bH, Value.agg → bM, World.grownBy_alloc → bU
open Go.Proofs.Tryz renaming prog → aQ
open Bool renaming false → aV, true → aX, or_eq_true → dY
open Go.RowKit renaming Below → bA, Below.refl → bF
open Nat renaming le_refl → bD, zero_le → bZ, le_trans → cF, zero_add → dC
open List renaming getElem?_eq_some_iff → bI, getElem?_eq_getElem → bL, length_append → bN, getElem?_append_right → bP, getElem?_append_left → bT, getElem?_map → cI, mem_singleton → dE, take_succ_eq_append_getElem → dF, length_map → dO, length_take → dH, not_mem_nil → dR, getElem?_eq_none → dZ
open And renaming intro → bK
open Tryz
open Go.RowKit
section
attribute [local go_sem ↓] Go.wp_at_zero Go.wp_at_succ
theorem Eg:∃i,(aQ).info? 98=aE i/\i.zero=aE (bM #[aI ⟨#[]⟩,aH aF 0,aH aF 0,aJ aC 0 0,bB aV,bB aV])/\i.size=6/\i.bytes=64:=nE (by kernel_rfl)
def il (m:N.cE) (nx:Option N.eE) (kind:Nat):N.cE×Int:=
 if N.dB m nx aX≠0 then(m,N.dB m nx aX) else
 if kind=3 then
  (match N.pop m with
   |none=>(m,6)
   |some (m1,n)=>({m1 with all:=m1.all++[⟨nx.getD [],3,n,[],aX,aV⟩]},0))
 else({m with all:=m.all++[⟨nx.getD [],kind,0,[],aX,aV⟩]},0)
theorem C6 (w:aY)(rb xb p:Nat)(vA vS vR:aG)(bs:List aG)(m:N.cE)(vW:aG)(ws:List N.eE)(h:cH w rb vA vS vR bs m)(hl:eH w xb rb vW ws p)(s:ByteArray)(he:N.dB m ws[p]? aX≠0):
 bH aQ 56 #[aK (aE ⟨xb,0,aC⟩),aI s] w λe w' =>e=aM (aH aF (N.dB m ws[p]? aX))/\mZ rb xb vA vS vR vW bs m ws (oQ p ws[p]?) w w' :=by
 have eO:=pH w rb xb p vA vS vR bs m vW ws aX h hl;have hz:(N.dB m ws[p]? aX==0)=aV:=by rw[beq_eq_false_iff_ne];exact he
 have HN:=bE eO;clear eO h hl he;generalize N.dB m ws[p]? aX=er at*;generalize mK m ws[p]? aX=tx at*;generalize oQ p ws[p]?=pa at*;go_enter func56,ntmps56;go_wp2_with fail
 refine(aN HN).mono ?_;rintro e w1 ⟨rfl,h1,h2,h3⟩;have HG:=bE (show mZ rb xb vA vS vR vW bs m ws pa w w1 from⟨vA,vS,vR,h1,h2,h3.weaken λk hk=>.inr hk,dG.refl _ _⟩);clear h1 h2 h3;go_wp2;go_ret;exact⟨rfl,aN HG⟩
theorem Y7 (w:aY)(rb xb p:Nat)(vA vS vR:aG)(bs:List aG)(m:N.cE)(vW:aG)(ws:List N.eE)(h:cH w rb vA vS vR bs m)(hl:eH w xb rb vW ws p)(hold:m.all.length+1<=1000000000000)(he:N.dB m ws[p]? aX=0):
 bH aQ 56 #[aK (aE ⟨xb,0,aC⟩),aI ⟨#[118,97,114,105,97,98,108,101]⟩] w λe w' =>e=aM (aH aF 0)/\mZ rb xb vA vS vR vW (bs++[aJ aC 0 0]) {m with all:=m.all++[⟨(ws[p]?).getD [],2,0,[],aX,aV⟩]} ws (oQ p ws[p]?) w w' :=by
 obtain⟨iE,hi,hz,hs,jP⟩:=Eg;have eO:=pH w rb xb p vA vS vR bs m vW ws aX h hl;have Tj:mK m ws[p]? aX=(ws[p]?).getD []:=eJ he;rw[he,Tj] at eO;clear Tj he;generalize(ws[p]?).getD []=tx at*;generalize oQ p ws[p]?=pa at*;obtain⟨aA,cA,rE⟩:=h.slice;have HN:=bE eO;clear eO h hl;go_enter func56,ntmps56;go_wp2_with fail
 refine(aN HN).mono ?_;rintro e w1 ⟨rfl,h1,h2,h3⟩;subst rE;have H1:=bE (bK h1 (bK h2 h3));have tB:bA w1.heap.size w1 (w1.alloc (aU #[aI ⟨tx.toArray⟩,aH aF 2,aH aF 0,aJ aC 0 0,bB aX,bB aV] 98)):=(bF _ _).alloc (bD _) _;have Bh:=h1.below tB;have EP:=h2.below tB;have eY:(w1.alloc (aU #[aI ⟨tx.toArray⟩,aH aF 2,aH aF 0,aJ aC 0 0,bB aX,bB aV] 98)).heap[w1.heap.size]?=aE (aU #[aI ⟨tx.toArray⟩,aH aF 2,aH aF 0,aJ aC 0 0,bB aX,bB aV] 98):=heap_alloc_new w1 _;have s0:(w1.alloc (aU #[aI ⟨tx.toArray⟩,aH aF 2,aH aF 0,aJ aC 0 0,bB aX,bB aV] 98)).cell? ⟨xb,0,aC⟩=aE (aK (aE ⟨rb,0,aC⟩)):=aZ EP.c rfl;have s1:(w1.alloc (aU #[aI ⟨tx.toArray⟩,aH aF 2,aH aF 0,aJ aC 0 0,bB aX,bB aV] 98)).cell? ⟨rb,0,aC⟩=aE (aJ aA m.all.length cA):=aZ Bh.mc rfl;have sf:(w1.alloc (aU #[aI ⟨tx.toArray⟩,aH aF 2,aH aF 0,aJ aC 0 0,bB aX,bB aV] 98)).frozen? ⟨rb,0,aC⟩=aV:=bG 0 Bh.mc;obtain⟨s2,s3,s4,s5,s6,s7⟩:=X4 eY;have NI:aE rb≠(aJ aA m.all.length cA).ownBlock:=λe=>h1.pR.1 e.symm
 have ae:aE xb≠(aJ aA m.all.length cA).ownBlock:=λe=>by
  obtain⟨_,h'⟩:=cJ h1.row e.symm;exact absurd (cM h2.c h') (by decide)
 have Ws:aE w1.heap.size≠(aJ aA m.all.length cA).ownBlock:=λe=>by
  have:=mC h1.row e.symm;omega
 have OS:=bE Bh.row;clear h1 h2 h3 tB Bh EP eY;generalize UA:m.all.length=nA at*;generalize NQ:jA m.all bs=xs at*;have HX:=bE (bK UA NQ);clear UA NQ;go_wp2;refine uR 16 (λw' :aY=>w'.cell? ⟨xb,0,aC⟩=aE (aK (aE ⟨rb,0,aC⟩))/\w'.cell? ⟨rb,0,aC⟩=aE (aJ aA nA cA)/\w'.cell? ⟨w1.heap.size,0,aC⟩=aE (aI ⟨tx.toArray⟩)/\w'.cell? ⟨w1.heap.size,1,aC⟩=aE (aH aF 2)/\w'.cell? ⟨w1.heap.size,2,aC⟩=aE (aH aF 0)/\w'.cell? ⟨w1.heap.size,3,aC⟩=aE (aJ aC 0 0)/\w'.cell? ⟨w1.heap.size,4,aC⟩=aE (bB aX)/\w'.cell? ⟨w1.heap.size,5,aC⟩=aE (bB aV)) (by kernel_rfl) ⟨s0,s1,s2,s3,s4,s5,s6,s7⟩ (λhc hS=>?_);refine uA 0 (aK (aE ⟨xb,0,aC⟩)) hc hS λhc=>?_
 refine uA 1 (aK (aE ⟨xb,0,aC⟩)) hc hS λhc=>?_
 refine uA 2 (aK (aE ⟨xb,0,aC⟩)) hc hS λhc=>?_
 refine uA 3 (aK (aE ⟨rb,0,aC⟩)) hc hS λhc=>?_
 refine uA 4 (aK (aE ⟨xb,0,aC⟩)) hc hS λhc=>?_
 refine uA 5 (aK (aE ⟨xb,0,aC⟩)) hc hS λhc=>?_
 refine uA 6 (aK (aE ⟨xb,0,aC⟩)) hc hS λhc=>?_
 refine uA 7 (aK (aE ⟨rb,0,aC⟩)) hc hS λhc=>?_
 refine uA 8 (aK (aE ⟨rb,0,aC⟩)) hc hS λhc=>?_
 refine uA 9 (aK (aE ⟨rb,0,aC⟩)) hc hS λhc=>?_
 refine uA 10 (aJ aA nA cA) hc hS λhc=>?_
 refine uA 11 (bM #[aI ⟨tx.toArray⟩,aH aF 2,aH aF 0,aJ aC 0 0,bB aX,bB aV]) hc hS λhc=>?_
 refine uO 12 (by kernel_rfl) rfl (λK' hK=>?_);go_simp;refine hK.out _ _ (by exact⟨bJ s0 _,bJ s1 _,bJ s2 _,bJ s3 _,bJ s4 _,bJ s5 _,bJ s6 _,bJ s7 _⟩) ?_;clear hK K';have hc:=hc.nx 12 (by kernel_rfl);refine uO 13 (by kernel_rfl) rfl (λK' hK=>?_);refine step_append_lies _ (by rfl) _ _ 75 (by rfl) 0 98 iE (bM #[aI ⟨#[]⟩,aH aF 0,aH aF 0,aJ aC 0 0,bB aV,bB aV]) 6 64 underlying75 hi hz hs jP rfl (by decide) (aJ aA nA cA) nA xs (by rfl) (by exact(aN OS).alloc _) ⟨w1.heap.size+1,0,aC⟩ 1 1 [aI ⟨tx.toArray⟩,aH aF 2,aH aF 0,aJ aC 0 0,bB aX,bB aV] (by rfl) rfl (aY.news_of_block (lF w1 _ _)) (λu hu=>by simp at hu;rcases hu with rfl|rfl|rfl|rfl|rfl|rfl <;> rfl) (by decide) (by unfold maxLen;omega) (by omega) (bZ _) _ rfl ?_;intro g3 iG w5 o3 mY t3 l3;have mY:((w1.alloc (aU #[aI ⟨tx.toArray⟩,aH aF 2,aH aF 0,aJ aC 0 0,bB aX,bB aV] 98)).alloc (aU #[aI ⟨tx.toArray⟩,aH aF 2,aH aF 0,aJ aC 0 0,bB aX,bB aV] 98)).grownBy w5 (aJ aA nA cA).ownBlock:=⟨mY.os,mY.tape,mY.output,mY.size,mY.block⟩
 have z5:=cY mY (bJ s1 _) (cY (bU _ _ aC) s1 sf (by simp)) NI;have y0:=mY.cell (bJ s0 _) ae;have y1:=mY.cell (bJ s1 _) NI;have y2:=mY.cell (bJ s2 _) Ws;have y3:=mY.cell (bJ s3 _) Ws;have y4:=mY.cell (bJ s4 _) Ws;have y5:=mY.cell (bJ s5 _) Ws;have y6:=mY.cell (bJ s6 _) Ws;have y7:=mY.cell (bJ s7 _) Ws;have G3:=bE (bK mY (bK o3 t3));clear mY o3 t3;refine hK.out _ _ (by exact⟨y0,y1,y2,y3,y4,y5,y6,y7⟩) ?_;clear hK K';have hc:=hc.nx 13 (by kernel_rfl);refine uA 14 (aK (aE ⟨rb,0,aC⟩)) hc (by exact⟨y0,y1,y2,y3,y4,y5,y6,y7⟩) λhc=>?_
 refine uA 15 (aK (aE ⟨rb,0,aC⟩)) hc (by exact⟨y0,y1,y2,y3,y4,y5,y6,y7⟩) λhc=>?_
 refine lA (by kernel_rfl) rfl (λK' hK=>?_);go_simp;refine hK.out _ _ ?_;clear hK K';refine wpAny_done (by kernel_rfl) ?_ _;go_wp2;go_ret;obtain⟨h1,h2,h3⟩:=aN H1;obtain⟨rfl,rfl⟩:=aN HX;have tB:bA w1.heap.size w1 ((w1.alloc (aU #[aI ⟨tx.toArray⟩,aH aF 2,aH aF 0,aJ aC 0 0,bB aX,bB aV] 98)).alloc (aU #[aI ⟨tx.toArray⟩,aH aF 2,aH aF 0,aJ aC 0 0,bB aX,bB aV] 98)):=((bF _ _).alloc (bD _) _).alloc (by simp) _;obtain⟨g4,g5,g6⟩:=aN G3;have hg:=cH.FX (e:=⟨tx,2,0,[],aX,aV⟩) (v:=aJ aC 0 0) (v' :=aJ (aE ⟨g3,0,aC⟩) (m.all.length+1) iG) h1 tB g4 g5 (by rcases g6 with e|e;exact .inl e.symm;exact .inr (by rw[e];rfl)) hold (show dQ 0 from⟨by decide,by decide⟩) (λ_=>⟨⟨rfl,.inl ⟨rfl,rfl⟩⟩,bZ _⟩);obtain⟨El,Bz,q8⟩:=hg;refine⟨rfl,_,vS,vR,El,h2.mv h1 Bz,?_,(dG.refl _ _).trans h3.size q8⟩;exact(h3.weaken λk hk=>.inr hk).trans (dG.refl _ _) (Bz.weaken λk hk=>.inl hk)
theorem G6 (w:aY)(rb xb p:Nat)(vA vS vR:aG)(bs:List aG)(m:N.cE)(vW:aG)(ws:List N.eE)(h:cH w rb vA vS vR bs m)(hl:eH w xb rb vW ws p)(hold:m.all.length+1<=1000000000000)(he:N.dB m ws[p]? aX=0):
 bH aQ 56 #[aK (aE ⟨xb,0,aC⟩),aI ⟨#[109,97,114,107,101,114]⟩] w λe w' =>e=aM (aH aF 0)/\mZ rb xb vA vS vR vW (bs++[aJ aC 0 0]) {m with all:=m.all++[⟨(ws[p]?).getD [],4,0,[],aX,aV⟩]} ws (oQ p ws[p]?) w w' :=by
 obtain⟨iE,hi,hz,hs,jP⟩:=Eg;have eO:=pH w rb xb p vA vS vR bs m vW ws aX h hl;have Tj:mK m ws[p]? aX=(ws[p]?).getD []:=eJ he;rw[he,Tj] at eO;clear Tj he;generalize(ws[p]?).getD []=tx at*;generalize oQ p ws[p]?=pa at*;obtain⟨aA,cA,rE⟩:=h.slice;have HN:=bE eO;clear eO h hl;go_enter func56,ntmps56;go_wp2_with fail
 refine(aN HN).mono ?_;rintro e w1 ⟨rfl,h1,h2,h3⟩;subst rE;have H1:=bE (bK h1 (bK h2 h3));have tB:bA w1.heap.size w1 (w1.alloc (aU #[aI ⟨tx.toArray⟩,aH aF 4,aH aF 0,aJ aC 0 0,bB aX,bB aV] 98)):=(bF _ _).alloc (bD _) _;have Bh:=h1.below tB;have EP:=h2.below tB;have eY:(w1.alloc (aU #[aI ⟨tx.toArray⟩,aH aF 4,aH aF 0,aJ aC 0 0,bB aX,bB aV] 98)).heap[w1.heap.size]?=aE (aU #[aI ⟨tx.toArray⟩,aH aF 4,aH aF 0,aJ aC 0 0,bB aX,bB aV] 98):=heap_alloc_new w1 _;have s0:(w1.alloc (aU #[aI ⟨tx.toArray⟩,aH aF 4,aH aF 0,aJ aC 0 0,bB aX,bB aV] 98)).cell? ⟨xb,0,aC⟩=aE (aK (aE ⟨rb,0,aC⟩)):=aZ EP.c rfl;have s1:(w1.alloc (aU #[aI ⟨tx.toArray⟩,aH aF 4,aH aF 0,aJ aC 0 0,bB aX,bB aV] 98)).cell? ⟨rb,0,aC⟩=aE (aJ aA m.all.length cA):=aZ Bh.mc rfl;have sf:(w1.alloc (aU #[aI ⟨tx.toArray⟩,aH aF 4,aH aF 0,aJ aC 0 0,bB aX,bB aV] 98)).frozen? ⟨rb,0,aC⟩=aV:=bG 0 Bh.mc;obtain⟨s2,s3,s4,s5,s6,s7⟩:=X4 eY;have NI:aE rb≠(aJ aA m.all.length cA).ownBlock:=λe=>h1.pR.1 e.symm
 have ae:aE xb≠(aJ aA m.all.length cA).ownBlock:=λe=>by
  obtain⟨_,h'⟩:=cJ h1.row e.symm;exact absurd (cM h2.c h') (by decide)
 have Ws:aE w1.heap.size≠(aJ aA m.all.length cA).ownBlock:=λe=>by
  have:=mC h1.row e.symm;omega
 have OS:=bE Bh.row;clear h1 h2 h3 tB Bh EP eY;generalize UA:m.all.length=nA at*;generalize NQ:jA m.all bs=xs at*;have HX:=bE (bK UA NQ);clear UA NQ;go_wp2;refine uR 16 (λw' :aY=>w'.cell? ⟨xb,0,aC⟩=aE (aK (aE ⟨rb,0,aC⟩))/\w'.cell? ⟨rb,0,aC⟩=aE (aJ aA nA cA)/\w'.cell? ⟨w1.heap.size,0,aC⟩=aE (aI ⟨tx.toArray⟩)/\w'.cell? ⟨w1.heap.size,1,aC⟩=aE (aH aF 4)/\w'.cell? ⟨w1.heap.size,2,aC⟩=aE (aH aF 0)/\w'.cell? ⟨w1.heap.size,3,aC⟩=aE (aJ aC 0 0)/\w'.cell? ⟨w1.heap.size,4,aC⟩=aE (bB aX)/\w'.cell? ⟨w1.heap.size,5,aC⟩=aE (bB aV)) (by kernel_rfl) ⟨s0,s1,s2,s3,s4,s5,s6,s7⟩ (λhc hS=>?_);refine uA 0 (aK (aE ⟨xb,0,aC⟩)) hc hS λhc=>?_
 refine uA 1 (aK (aE ⟨xb,0,aC⟩)) hc hS λhc=>?_
 refine uA 2 (aK (aE ⟨xb,0,aC⟩)) hc hS λhc=>?_
 refine uA 3 (aK (aE ⟨rb,0,aC⟩)) hc hS λhc=>?_
 refine uA 4 (aK (aE ⟨xb,0,aC⟩)) hc hS λhc=>?_
 refine uA 5 (aK (aE ⟨xb,0,aC⟩)) hc hS λhc=>?_
 refine uA 6 (aK (aE ⟨xb,0,aC⟩)) hc hS λhc=>?_
 refine uA 7 (aK (aE ⟨rb,0,aC⟩)) hc hS λhc=>?_
 refine uA 8 (aK (aE ⟨rb,0,aC⟩)) hc hS λhc=>?_
 refine uA 9 (aK (aE ⟨rb,0,aC⟩)) hc hS λhc=>?_
 refine uA 10 (aJ aA nA cA) hc hS λhc=>?_
 refine uA 11 (bM #[aI ⟨tx.toArray⟩,aH aF 4,aH aF 0,aJ aC 0 0,bB aX,bB aV]) hc hS λhc=>?_
 refine uO 12 (by kernel_rfl) rfl (λK' hK=>?_);go_simp;refine hK.out _ _ (by exact⟨bJ s0 _,bJ s1 _,bJ s2 _,bJ s3 _,bJ s4 _,bJ s5 _,bJ s6 _,bJ s7 _⟩) ?_;clear hK K';have hc:=hc.nx 12 (by kernel_rfl);refine uO 13 (by kernel_rfl) rfl (λK' hK=>?_);refine step_append_lies _ (by rfl) _ _ 75 (by rfl) 0 98 iE (bM #[aI ⟨#[]⟩,aH aF 0,aH aF 0,aJ aC 0 0,bB aV,bB aV]) 6 64 underlying75 hi hz hs jP rfl (by decide) (aJ aA nA cA) nA xs (by rfl) (by exact(aN OS).alloc _) ⟨w1.heap.size+1,0,aC⟩ 1 1 [aI ⟨tx.toArray⟩,aH aF 4,aH aF 0,aJ aC 0 0,bB aX,bB aV] (by rfl) rfl (aY.news_of_block (lF w1 _ _)) (λu hu=>by simp at hu;rcases hu with rfl|rfl|rfl|rfl|rfl|rfl <;> rfl) (by decide) (by unfold maxLen;omega) (by omega) (bZ _) _ rfl ?_;intro g3 iG w5 o3 mY t3 l3;have mY:((w1.alloc (aU #[aI ⟨tx.toArray⟩,aH aF 4,aH aF 0,aJ aC 0 0,bB aX,bB aV] 98)).alloc (aU #[aI ⟨tx.toArray⟩,aH aF 4,aH aF 0,aJ aC 0 0,bB aX,bB aV] 98)).grownBy w5 (aJ aA nA cA).ownBlock:=⟨mY.os,mY.tape,mY.output,mY.size,mY.block⟩
 have z5:=cY mY (bJ s1 _) (cY (bU _ _ aC) s1 sf (by simp)) NI;have y0:=mY.cell (bJ s0 _) ae;have y1:=mY.cell (bJ s1 _) NI;have y2:=mY.cell (bJ s2 _) Ws;have y3:=mY.cell (bJ s3 _) Ws;have y4:=mY.cell (bJ s4 _) Ws;have y5:=mY.cell (bJ s5 _) Ws;have y6:=mY.cell (bJ s6 _) Ws;have y7:=mY.cell (bJ s7 _) Ws;have G3:=bE (bK mY (bK o3 t3));clear mY o3 t3;refine hK.out _ _ (by exact⟨y0,y1,y2,y3,y4,y5,y6,y7⟩) ?_;clear hK K';have hc:=hc.nx 13 (by kernel_rfl);refine uA 14 (aK (aE ⟨rb,0,aC⟩)) hc (by exact⟨y0,y1,y2,y3,y4,y5,y6,y7⟩) λhc=>?_
 refine uA 15 (aK (aE ⟨rb,0,aC⟩)) hc (by exact⟨y0,y1,y2,y3,y4,y5,y6,y7⟩) λhc=>?_
 refine lA (by kernel_rfl) rfl (λK' hK=>?_);go_simp;refine hK.out _ _ ?_;clear hK K';refine wpAny_done (by kernel_rfl) ?_ _;go_wp2;go_ret;obtain⟨h1,h2,h3⟩:=aN H1;obtain⟨rfl,rfl⟩:=aN HX;have tB:bA w1.heap.size w1 ((w1.alloc (aU #[aI ⟨tx.toArray⟩,aH aF 4,aH aF 0,aJ aC 0 0,bB aX,bB aV] 98)).alloc (aU #[aI ⟨tx.toArray⟩,aH aF 4,aH aF 0,aJ aC 0 0,bB aX,bB aV] 98)):=((bF _ _).alloc (bD _) _).alloc (by simp) _;obtain⟨g4,g5,g6⟩:=aN G3;have hg:=cH.FX (e:=⟨tx,4,0,[],aX,aV⟩) (v:=aJ aC 0 0) (v' :=aJ (aE ⟨g3,0,aC⟩) (m.all.length+1) iG) h1 tB g4 g5 (by rcases g6 with e|e;exact .inl e.symm;exact .inr (by rw[e];rfl)) hold (show dQ 0 from⟨by decide,by decide⟩) (λ_=>⟨⟨rfl,.inl ⟨rfl,rfl⟩⟩,bZ _⟩);obtain⟨El,Bz,q8⟩:=hg;refine⟨rfl,_,vS,vR,El,h2.mv h1 Bz,?_,(dG.refl _ _).trans h3.size q8⟩;exact(h3.weaken λk hk=>.inr hk).trans (dG.refl _ _) (Bz.weaken λk hk=>.inl hk)
theorem Kl (w:aY)(rb xb p:Nat)(vA vS vR:aG)(bs:List aG)(m:N.cE)(vW:aG)(ws:List N.eE)(h:cH w rb vA vS vR bs m)(hl:eH w xb rb vW ws p)(he:N.dB m ws[p]? aX=0)(hS:m.S=[]):
 bH aQ 56 #[aK (aE ⟨xb,0,aC⟩),aI ⟨#[99,111,110,115,116,97,110,116]⟩] w λe w' =>e=aM (aH aF 6)/\mZ rb xb vA vS vR vW bs m ws (oQ p ws[p]?) w w' :=by
 have eO:=pH w rb xb p vA vS vR bs m vW ws aX h hl;have Tj:mK m ws[p]? aX=(ws[p]?).getD []:=eJ he;rw[he,Tj] at eO;clear Tj he;generalize(ws[p]?).getD []=tx at*;generalize oQ p ws[p]?=pa at*;have oM:N.pop m=aC:=by unfold N.pop;rw[hS];rfl
 have lO:∀w1:aY,cH w1 rb vA vS vR bs m->eH w1 xb rb vW ws pa->Mv (λk=>k=xb) w w1->bH aQ 73 #[aK (aE ⟨rb,0,aC⟩)] (w1.alloc (aU #[aI ⟨tx.toArray⟩,aH aF 3,aH aF 0,aJ aC 0 0,bB aX,bB aV] 98)) λe w2=>e=aM (bC #[aH aF 0,aH aF 6])/\∃Wl Nw Vf,cH w2 rb Wl Nw Vf bs m/\eH w2 xb rb vW ws pa/\Mv (λk=>dV rb vA vS vR k\/k=xb) w w2/\dG w (dV rb vA vS vR) (dV rb Wl Nw Vf)/\w2.heap[w1.heap.size]?=aE (aU #[aI ⟨tx.toArray⟩,aH aF 3,aH aF 0,aJ aC 0 0,bB aX,bB aV] 98)/\¬dV rb Wl Nw Vf w1.heap.size/\(∀(j:Nat) (e:N.iM) (v:aG),m.all[j]?=aE e->bs[j]?=aE v->e.ended=aX->v.ownBlock≠aE w1.heap.size)/\w.heap.size<=w1.heap.size:=λw1 h1 h2 h3=>by
  have fF:bA w1.heap.size w1 (w1.alloc (aU #[aI ⟨tx.toArray⟩,aH aF 3,aH aF 0,aJ aC 0 0,bB aX,bB aV] 98)):=(bF _ _).alloc (bD _) _;have hp:=mR (w1.alloc (aU #[aI ⟨tx.toArray⟩,aH aF 3,aH aF 0,aJ aC 0 0,bB aX,bB aV] 98)) rb vA vS vR bs m (h1.below fF);have e2:jK m=0:=by unfold jK;rw[oM]
  have e3:iK m=m:=by unfold iK;rw[oM]
  rw[e2,e3,eJ hS] at hp;refine hp.mono λe w2 hh=>⟨hh.1,?_⟩
  obtain⟨a2,s2,r2,g1,g2,g3⟩:=hh.2;have zF:¬dV rb vA vS vR w1.heap.size:=λhf=>Nat.lt_irrefl _ (h1.lt _ hf)
  refine⟨a2,s2,r2,g1,(h2.below fF).mv (h1.below fF) g2,?_,?_,?_,?_,?_,h3.size⟩
  ·have hx:Mv (λk=>dV rb vA vS vR k\/k=xb) w (w1.alloc (aU #[aI ⟨tx.toArray⟩,aH aF 3,aH aF 0,aJ aC 0 0,bB aX,bB aV] 98)):=((h3.weaken λk hk=>Or.inr hk):Mv (λk=>dV rb vA vS vR k\/k=xb) w w1).alloc _;exact hx.trans (dG.refl _ _) (g2.weaken λk hk=>.inl hk)
  ·intro k hk;rcases g3 k hk with y|y
   ·exact .inl y
   ·right
    have:=h3.size;have:(w1.alloc (aU #[aI ⟨tx.toArray⟩,aH aF 3,aH aF 0,aJ aC 0 0,bB aX,bB aV] 98)).heap.size=w1.heap.size+1:=by simp
    omega
  ·exact(g2.block w1.heap.size (by simp) zF).trans (heap_alloc_new w1 _)
  ·intro hf;rcases g3 _ hf with y|y
   ·exact zF y
   ·have:(w1.alloc (aU #[aI ⟨tx.toArray⟩,aH aF 3,aH aF 0,aJ aC 0 0,bB aX,bB aV] 98)).heap.size=w1.heap.size+1:=by simp
    omega
  ·intro j e v hj hv kY hk;have:=mC (h1.Xa j e v hj hv kY).1 hk;omega
 have HP:=bE lO;have HN:=bE eO;clear eO lO oM hS h hl;go_enter func56,ntmps56;go_wp2_with fail
 refine(aN HN).mono ?_;rintro e w1 ⟨rfl,h1,h2,h3⟩;have d0:(w1.alloc (aU #[aI ⟨tx.toArray⟩,aH aF 3,aH aF 0,aJ aC 0 0,bB aX,bB aV] 98)).cell? ⟨xb,0,aC⟩=aE (aK (aE ⟨rb,0,aC⟩)):=bJ (aZ h2.c rfl) _;have d0':=cq 0 h2.c rfl;have HP1:=bE (aN HP w1 h1 h2 h3);clear h1 h2 h3;go_wp2_with fail
 refine(aN HP1).mono ?_;rintro e w2 ⟨rfl,Wl,Nw,Vf,g1,g2,g3,g4,eP,zF,Fx,hsz⟩;have n2:=cq 2 eP rfl;have f2:=bG 2 eP;have Bh:cH (w2.setCell ⟨w1.heap.size,2,aC⟩ (aH aF 0)) rb Wl Nw Vf bs m:=by
  refine⟨(dA λe=>zF (.inl e.symm)).trans g1.mc,cV g1.row λk e=>dA λx=>zF (.inr (.inl (x▸e))),g1.len,λj e v hj hv kY=>?_,cK g1.st λk e=>dA λx=>zF (.inr (.inr (.inl (x▸e)))),cK g1.rt λk e=>dA λx=>zF (.inr (.inr (.inr (x▸e)))),g1.ap,g1.sl,g1.rl,g1.ol,g1.sp,g1.qU,g1.si,g1.ri,g1.ni⟩;obtain⟨q1,q2⟩:=g1.Xa j e v hj hv kY;exact⟨cV q1 λk e=>dA λx=>Fx j _ v hj hv kY (x▸e),q2⟩
 have EP:eH (w2.setCell ⟨w1.heap.size,2,aC⟩ (aH aF 0)) xb rb vW ws pa:=by
  refine g2.kept (dA λe=>?_) λk e=>dA λx=>?_
  ·rw[<-e] at eP;exact absurd (cM g2.c eP) (by decide)
  ·obtain⟨_,h'⟩:=cZ g2.l e;rw[x] at h';exact absurd (cM h' eP) (by decide)
 have Jk:Mv (λk=>dV rb vA vS vR k\/k=xb) w (w2.setCell ⟨w1.heap.size,2,aC⟩ (aH aF 0)):=g3.setCell (p:=⟨w1.heap.size,2,aC⟩) (.inr hsz) _;have HG:=bE (show mZ rb xb vA vS vR vW bs m ws pa w (w2.setCell ⟨w1.heap.size,2,aC⟩ (aH aF 0)) from⟨Wl,Nw,Vf,Bh,EP,Jk,g4⟩);clear g1 g2 g3 g4 Bh EP Jk eP zF Fx;go_wp2;go_ret;exact⟨rfl,aN HG⟩
theorem BQ (w:aY)(rb xb p:Nat)(vA vS vR:aG)(bs:List aG)(m:N.cE)(vW:aG)(ws:List N.eE)(h:cH w rb vA vS vR bs m)(hl:eH w xb rb vW ws p)(hold:m.all.length+1<=1000000000000)(he:N.dB m ws[p]? aX=0)(S:List Int)(x:Int)(hS:m.S=S++[x]):
 bH aQ 56 #[aK (aE ⟨xb,0,aC⟩),aI ⟨#[99,111,110,115,116,97,110,116]⟩] w λe w' =>e=aM (aH aF 0)/\mZ rb xb vA vS vR vW (bs++[aJ aC 0 0]) {m with S:=S,all:=m.all++[⟨(ws[p]?).getD [],3,x,[],aX,aV⟩]} ws (oQ p ws[p]?) w w' :=by
 obtain⟨iE,hi,hz,hs,jP⟩:=Eg;have eO:=pH w rb xb p vA vS vR bs m vW ws aX h hl;have Tj:mK m ws[p]? aX=(ws[p]?).getD []:=eJ he;rw[he,Tj] at eO;clear Tj he;generalize(ws[p]?).getD []=tx at*;generalize oQ p ws[p]?=pa at*;have oM:N.pop m=aE ({m with S:=S},x):=by unfold N.pop;rw[hS];simp
 have jD:m.S≠[]:=by rw[hS];simp
 have Q7:dQ x:=h.si x (by rw[hS];simp);have lO:∀w1:aY,cH w1 rb vA vS vR bs m->eH w1 xb rb vW ws pa->Mv (λk=>k=xb) w w1->bH aQ 73 #[aK (aE ⟨rb,0,aC⟩)] (w1.alloc (aU #[aI ⟨tx.toArray⟩,aH aF 3,aH aF 0,aJ aC 0 0,bB aX,bB aV] 98)) λe w2=>e=aM (bC #[aH aF x,aH aF 0])/\∃Wl Nw Vf,cH w2 rb Wl Nw Vf bs {m with S:=S}/\eH w2 xb rb vW ws pa/\Mv (λk=>dV rb vA vS vR k\/k=xb) w w2/\dG w (dV rb vA vS vR) (dV rb Wl Nw Vf)/\w2.heap[w1.heap.size]?=aE (aU #[aI ⟨tx.toArray⟩,aH aF 3,aH aF 0,aJ aC 0 0,bB aX,bB aV] 98)/\¬dV rb Wl Nw Vf w1.heap.size/\(∀(j:Nat) (e:N.iM) (v:aG),m.all[j]?=aE e->bs[j]?=aE v->e.ended=aX->v.ownBlock≠aE w1.heap.size)/\w.heap.size<=w1.heap.size:=λw1 h1 h2 h3=>by
  have fF:bA w1.heap.size w1 (w1.alloc (aU #[aI ⟨tx.toArray⟩,aH aF 3,aH aF 0,aJ aC 0 0,bB aX,bB aV] 98)):=(bF _ _).alloc (bD _) _;have hp:=mR (w1.alloc (aU #[aI ⟨tx.toArray⟩,aH aF 3,aH aF 0,aJ aC 0 0,bB aX,bB aV] 98)) rb vA vS vR bs m (h1.below fF);have e2:jK m=x:=by unfold jK;rw[oM]
  have e3:iK m={m with S:=S}:=by unfold iK;rw[oM]
  rw[e2,e3,dL jD] at hp;refine hp.mono λe w2 hh=>⟨hh.1,?_⟩
  obtain⟨a2,s2,r2,g1,g2,g3⟩:=hh.2;have zF:¬dV rb vA vS vR w1.heap.size:=λhf=>Nat.lt_irrefl _ (h1.lt _ hf)
  refine⟨a2,s2,r2,g1,(h2.below fF).mv (h1.below fF) g2,?_,?_,?_,?_,?_,h3.size⟩
  ·have hx:Mv (λk=>dV rb vA vS vR k\/k=xb) w (w1.alloc (aU #[aI ⟨tx.toArray⟩,aH aF 3,aH aF 0,aJ aC 0 0,bB aX,bB aV] 98)):=((h3.weaken λk hk=>Or.inr hk):Mv (λk=>dV rb vA vS vR k\/k=xb) w w1).alloc _;exact hx.trans (dG.refl _ _) (g2.weaken λk hk=>.inl hk)
  ·intro k hk;rcases g3 k hk with y|y
   ·exact .inl y
   ·right
    have:=h3.size;have:(w1.alloc (aU #[aI ⟨tx.toArray⟩,aH aF 3,aH aF 0,aJ aC 0 0,bB aX,bB aV] 98)).heap.size=w1.heap.size+1:=by simp
    omega
  ·exact(g2.block w1.heap.size (by simp) zF).trans (heap_alloc_new w1 _)
  ·intro hf;rcases g3 _ hf with y|y
   ·exact zF y
   ·have:(w1.alloc (aU #[aI ⟨tx.toArray⟩,aH aF 3,aH aF 0,aJ aC 0 0,bB aX,bB aV] 98)).heap.size=w1.heap.size+1:=by simp
    omega
  ·intro j e v hj hv kY hk;have:=mC (h1.Xa j e v hj hv kY).1 hk;omega
 have HP:=bE lO;have HN:=bE eO;clear eO lO oM jD hS h hl;go_enter func56,ntmps56;go_wp2_with fail
 refine(aN HN).mono ?_;rintro e w1 ⟨rfl,h1,h2,h3⟩;have d0:(w1.alloc (aU #[aI ⟨tx.toArray⟩,aH aF 3,aH aF 0,aJ aC 0 0,bB aX,bB aV] 98)).cell? ⟨xb,0,aC⟩=aE (aK (aE ⟨rb,0,aC⟩)):=bJ (aZ h2.c rfl) _;have d0':=cq 0 h2.c rfl;have HP1:=bE (aN HP w1 h1 h2 h3);clear h1 h2 h3;go_wp2_with fail
 refine(aN HP1).mono ?_;rintro e w2 ⟨rfl,Wl,Nw,Vf,g1,g2,g3,g4,eP,zF,Fx,hsz⟩;have n2:=cq 2 eP rfl;have f2:=bG 2 eP;have Bh:cH (w2.setCell ⟨w1.heap.size,2,aC⟩ (aH aF x)) rb Wl Nw Vf bs {m with S:=S}:=by
  refine⟨(dA λe=>zF (.inl e.symm)).trans g1.mc,cV g1.row λk e=>dA λx=>zF (.inr (.inl (x▸e))),g1.len,λj e v hj hv kY=>?_,cK g1.st λk e=>dA λx=>zF (.inr (.inr (.inl (x▸e)))),cK g1.rt λk e=>dA λx=>zF (.inr (.inr (.inr (x▸e)))),g1.ap,g1.sl,g1.rl,g1.ol,g1.sp,g1.qU,g1.si,g1.ri,g1.ni⟩;obtain⟨q1,q2⟩:=g1.Xa j e v hj hv kY;exact⟨cV q1 λk e=>dA λx=>Fx j _ v hj hv kY (x▸e),q2⟩
 have EP:eH (w2.setCell ⟨w1.heap.size,2,aC⟩ (aH aF x)) xb rb vW ws pa:=by
  refine g2.kept (dA λe=>?_) λk e=>dA λx=>?_
  ·rw[<-e] at eP;exact absurd (cM g2.c eP) (by decide)
  ·obtain⟨_,h'⟩:=cZ g2.l e;rw[x] at h';exact absurd (cM h' eP) (by decide)
 have Jk:Mv (λk=>dV rb vA vS vR k\/k=xb) w (w2.setCell ⟨w1.heap.size,2,aC⟩ (aH aF x)):=g3.setCell (p:=⟨w1.heap.size,2,aC⟩) (.inr hsz) _;have eY:=bV eP 2 (aH aF x);obtain⟨aA,cA,rE⟩:=Bh.slice;have rE:Wl=aJ aA m.all.length cA:=rE;subst rE;have s0:(w2.setCell ⟨w1.heap.size,2,aC⟩ (aH aF x)).cell? ⟨xb,0,aC⟩=aE (aK (aE ⟨rb,0,aC⟩)):=aZ EP.c rfl;have s1:(w2.setCell ⟨w1.heap.size,2,aC⟩ (aH aF x)).cell? ⟨rb,0,aC⟩=aE (aJ aA m.all.length cA):=aZ Bh.mc rfl;have sf:(w2.setCell ⟨w1.heap.size,2,aC⟩ (aH aF x)).frozen? ⟨rb,0,aC⟩=aV:=bG 0 Bh.mc;obtain⟨s2,s3,s4,s5,s6,s7⟩:=X4 eY;have NI:aE rb≠(aJ aA m.all.length cA).ownBlock:=λe=>Bh.pR.1 e.symm
 have ae:aE xb≠(aJ aA m.all.length cA).ownBlock:=λe=>by
  obtain⟨_,h'⟩:=cJ Bh.row e.symm;exact absurd (cM EP.c h') (by decide)
 have Ws:aE w1.heap.size≠(aJ aA m.all.length cA).ownBlock:=λe=>zF (.inr (.inl e.symm))
 have hnw:((w2.setCell ⟨w1.heap.size,2,aC⟩ (aH aF x)).alloc (aU #[aI ⟨tx.toArray⟩,aH aF 3,aH aF x,aJ aC 0 0,bB aX,bB aV] 98)).heap[w2.heap.size]?=aE (aU #[aI ⟨tx.toArray⟩,aH aF 3,aH aF x,aJ aC 0 0,bB aX,bB aV] 98):=by
  have:=heap_alloc_new (w2.setCell ⟨w1.heap.size,2,aC⟩ (aH aF x)) (aU #[aI ⟨tx.toArray⟩,aH aF 3,aH aF x,aJ aC 0 0,bB aX,bB aV] 98);rwa[show(w2.setCell ⟨w1.heap.size,2,aC⟩ (aH aF x)).heap.size=w2.heap.size by simp[aY.setCell]] at this
 have HNW:=bE hnw;have OS:=bE (show(w2.setCell ⟨w1.heap.size,2,aC⟩ (aH aF x)).ownsRow 0 98 6 (aJ aA m.all.length cA) m.all.length (jA m.all bs) from Bh.row);have H1:=bE (bK Bh (bK EP (bK Jk g4)));clear g1 g2 g3 g4 Bh EP Jk eP zF Fx eY hnw;generalize UA:m.all.length=nA at*;generalize NQ:jA m.all bs=xs at*;have HX:=bE (bK UA NQ);clear UA NQ;go_wp2;refine uR 16 (λw' :aY=>w'.cell? ⟨xb,0,aC⟩=aE (aK (aE ⟨rb,0,aC⟩))/\w'.cell? ⟨rb,0,aC⟩=aE (aJ aA nA cA)/\w'.cell? ⟨w1.heap.size,0,aC⟩=aE (aI ⟨tx.toArray⟩)/\w'.cell? ⟨w1.heap.size,1,aC⟩=aE (aH aF 3)/\w'.cell? ⟨w1.heap.size,2,aC⟩=aE (aH aF x)/\w'.cell? ⟨w1.heap.size,3,aC⟩=aE (aJ aC 0 0)/\w'.cell? ⟨w1.heap.size,4,aC⟩=aE (bB aX)/\w'.cell? ⟨w1.heap.size,5,aC⟩=aE (bB aV)) (by kernel_rfl) ⟨s0,s1,s2,s3,s4,s5,s6,s7⟩ (λhc hS=>?_);refine uA 0 (aK (aE ⟨xb,0,aC⟩)) hc hS λhc=>?_
 refine uA 1 (aK (aE ⟨xb,0,aC⟩)) hc hS λhc=>?_
 refine uA 2 (aK (aE ⟨xb,0,aC⟩)) hc hS λhc=>?_
 refine uA 3 (aK (aE ⟨rb,0,aC⟩)) hc hS λhc=>?_
 refine uA 4 (aK (aE ⟨xb,0,aC⟩)) hc hS λhc=>?_
 refine uA 5 (aK (aE ⟨xb,0,aC⟩)) hc hS λhc=>?_
 refine uA 6 (aK (aE ⟨xb,0,aC⟩)) hc hS λhc=>?_
 refine uA 7 (aK (aE ⟨rb,0,aC⟩)) hc hS λhc=>?_
 refine uA 8 (aK (aE ⟨rb,0,aC⟩)) hc hS λhc=>?_
 refine uA 9 (aK (aE ⟨rb,0,aC⟩)) hc hS λhc=>?_
 refine uA 10 (aJ aA nA cA) hc hS λhc=>?_
 refine uA 11 (bM #[aI ⟨tx.toArray⟩,aH aF 3,aH aF x,aJ aC 0 0,bB aX,bB aV]) hc hS λhc=>?_
 refine uO 12 (by kernel_rfl) rfl (λK' hK=>?_);go_simp;refine hK.out _ _ (by exact⟨bJ s0 _,bJ s1 _,bJ s2 _,bJ s3 _,bJ s4 _,bJ s5 _,bJ s6 _,bJ s7 _⟩) ?_;clear hK K';have hc:=hc.nx 12 (by kernel_rfl);refine uO 13 (by kernel_rfl) rfl (λK' hK=>?_);refine step_append_lies _ (by rfl) _ _ 75 (by rfl) 0 98 iE (bM #[aI ⟨#[]⟩,aH aF 0,aH aF 0,aJ aC 0 0,bB aV,bB aV]) 6 64 underlying75 hi hz hs jP rfl (by decide) (aJ aA nA cA) nA xs (by rfl) (by exact(aN OS).alloc _) ⟨w2.heap.size,0,aC⟩ 1 1 [aI ⟨tx.toArray⟩,aH aF 3,aH aF x,aJ aC 0 0,bB aX,bB aV] (by rfl) rfl (aY.news_of_block (aN HNW)) (λu hu=>by simp at hu;rcases hu with rfl|rfl|rfl|rfl|rfl|rfl <;> rfl) (by decide) (by unfold maxLen;omega) (by omega) (bZ _) _ rfl ?_;intro g3 iG w5 o3 mY t3 l3;have mY:((w2.setCell ⟨w1.heap.size,2,aC⟩ (aH aF x)).alloc (aU #[aI ⟨tx.toArray⟩,aH aF 3,aH aF x,aJ aC 0 0,bB aX,bB aV] 98)).grownBy w5 (aJ aA nA cA).ownBlock:=⟨mY.os,mY.tape,mY.output,mY.size,mY.block⟩
 have z5:=cY mY (bJ s1 _) (cY (bU _ _ aC) s1 sf (by simp)) NI;have y0:=mY.cell (bJ s0 _) ae;have y1:=mY.cell (bJ s1 _) NI;have y2:=mY.cell (bJ s2 _) Ws;have y3:=mY.cell (bJ s3 _) Ws;have y4:=mY.cell (bJ s4 _) Ws;have y5:=mY.cell (bJ s5 _) Ws;have y6:=mY.cell (bJ s6 _) Ws;have y7:=mY.cell (bJ s7 _) Ws;have G3:=bE (bK mY (bK o3 t3));clear mY o3 t3;refine hK.out _ _ (by exact⟨y0,y1,y2,y3,y4,y5,y6,y7⟩) ?_;clear hK K';have hc:=hc.nx 13 (by kernel_rfl);refine uA 14 (aK (aE ⟨rb,0,aC⟩)) hc (by exact⟨y0,y1,y2,y3,y4,y5,y6,y7⟩) λhc=>?_
 refine uA 15 (aK (aE ⟨rb,0,aC⟩)) hc (by exact⟨y0,y1,y2,y3,y4,y5,y6,y7⟩) λhc=>?_
 refine lA (by kernel_rfl) rfl (λK' hK=>?_);go_simp;refine hK.out _ _ ?_;clear hK K';refine wpAny_done (by kernel_rfl) ?_ _;go_wp2;go_ret;obtain⟨Bh,EP,Jk,cd⟩:=aN H1;obtain⟨rfl,rfl⟩:=aN HX;have tB:bA (w2.setCell ⟨w1.heap.size,2,aC⟩ (aH aF x)).heap.size (w2.setCell ⟨w1.heap.size,2,aC⟩ (aH aF x)) ((w2.setCell ⟨w1.heap.size,2,aC⟩ (aH aF x)).alloc (aU #[aI ⟨tx.toArray⟩,aH aF 3,aH aF x,aJ aC 0 0,bB aX,bB aV] 98)):=(bF _ _).alloc (bD _) _;obtain⟨g4,g5,g6⟩:=aN G3;have hg:=cH.FX (e:=⟨tx,3,x,[],aX,aV⟩) (v:=aJ aC 0 0) (v' :=aJ (aE ⟨g3,0,aC⟩) (m.all.length+1) iG) Bh tB g4 g5 (by rcases g6 with e|e;exact .inl e.symm;exact .inr (by rw[e];rfl)) hold Q7 (λ_=>⟨⟨rfl,.inl ⟨rfl,rfl⟩⟩,bZ _⟩);obtain⟨El,Bz,q8⟩:=hg;refine⟨rfl,_,Nw,Vf,El,EP.mv Bh Bz,?_,cd.trans Jk.size q8⟩;refine Jk.trans (T' :=λk=>dV rb (aJ aA m.all.length cA) Nw Vf k\/k=xb) (λk hk=>?_) (Bz.weaken λk hk=>.inl hk);rcases hk with hk|hk
 ·rcases cd k hk with y|y
  ·exact .inl (.inl y)
  ·exact .inr y
 ·exact .inl (.inr hk)
def xK (o:List N.eE):List aG:=o.map λl=>aI ⟨l.toArray⟩
theorem LU (o:List N.eE)(t:N.eE):(xK (o++[t])).take o.length=xK o:=by
 unfold xK;simp
structure eZ (w:aY) (B fb:Nat) (vO:aG) (o:List N.eE):Prop where
 c:w.heap[fb]?=aE (aU #[vO] 143)
 row:w.ownsRow B 9 1 vO o.length (xK o)
 ge:B<=fb
variable {w w' :aY}{B fb:Nat}{vO:aG}{o:List N.eE}
theorem eZ.below (h:eZ w B fb vO o)(hb:bA w.heap.size w w'):eZ w' B fb vO o:=⟨(hb.block fb (cC h.c)).trans h.c,cK h.row λk e=>hb.block k (h.row.lt k e).2,h.ge⟩
theorem eZ.ne (h:eZ w B fb vO o):vO.ownBlock≠aE fb:=λe=>bW h.row h.c (by decide) e
variable {w1 w2:aY}{v' :aG}
theorem eZ.put {o' :List N.eE}(h:eZ w B fb vO o)(hb:bA w.heap.size w w1)(hg:w1.grownBy w2 vO.ownBlock)(ho:w2.ownsRow B 9 1 v' o'.length (xK o')):
 eZ (w2.setCell ⟨fb,0,aC⟩ v') B fb v' o' /\Mv (λk=>k=fb\/vO.ownBlock=aE k) w (w2.setCell ⟨fb,0,aC⟩ v'):=by
 have hs:=hb.size;have P0:w2.heap[fb]?=aE (aU #[vO] 143):=((hg.block fb (by have:=cC h.c;omega) λe=>h.ne e.symm).trans (hb.block fb (cC h.c))).trans h.c;refine⟨⟨bV P0 0 v',cK ho λk e=>dA λx=>bW ho P0 (by decide) (x▸e),h.ge⟩,?_⟩;exact(Mv.grown (T:=λk=>k=fb\/vO.ownBlock=aE k) (Mv.dS hb _) hg λk e=>.inl (.inr e)).setCell (p:=⟨fb,0,aC⟩) (.inl (.inl rfl)) v'
theorem eZ.slice (h:eZ w B fb vO o):∃a c,vO=aJ a o.length c/\o.length<=c:=by
 obtain⟨a,c,h1,h2,_⟩:=cU h.row;exact⟨a,c,h1,h2⟩
theorem LK (w:aY)(B fb:Nat)(vO:aG)(o:List N.eE)(h:eZ w B fb vO o)(hl:o.length<=1000):
 bH aQ 127 #[aK (aE ⟨fb,0,aC⟩)] w λe w' =>e=aM (aI ⟨(o.getLast?.getD []).toArray⟩)/\bA w.heap.size w w' :=by
 obtain⟨a,c,rfl,hc⟩:=h.slice;have c0:=cq 0 h.c rfl;rcases List.eq_nil_or_concat o with h0|⟨o',t,ho⟩
 ·subst h0;have c0:w.cell? ⟨fb,0,aC⟩=aE (aJ a 0 c):=c0;clear h hc hl;go_enter func127,ntmps127;go_wp2;go_ret;exact⟨rfl,bF _ _⟩
 ·have ho:o=o' ++[t]:=by simpa using ho
  subst ho;have hlen:(o' ++[t]).length=o'.length+1:=by simp
  rw[List.getLast?_concat];obtain⟨g,cap,hv,_,_⟩:=h.row.form (by rw[hlen];omega);have Nt:=eM hv;subst Nt;have cx:w.cell? ⟨g,o'.length,aC⟩=aE (aI ⟨t.toArray⟩):=by
   have:=h.row.cells (g:=g) rfl o'.length (aI ⟨t.toArray⟩) (by unfold xK;simp);rwa[fE,dC] at this
  clear h hv;rw[hlen] at c0 hl;generalize o'.length=k at*;generalize hk:k+1=n at*;have i0:aF.wrap ((n:Int)-1)=(k:Int):=wj;have i1:(0:Int)<=(k:Int):=by omega
  have i2:(k:Int)<(n:Int):=by omega
  have i5:((n:Int)==0)=aV:=by rw[beq_eq_false_iff_ne];omega
  clear hk hlen hl hc;show bH _ _ _ _ λe w' =>e=aM (aI ⟨t.toArray⟩)/\bA w.heap.size w w'
  go_enter func127,ntmps127;go_wp2;go_region_held3 (λw' =>w'.cell? ⟨fb,0,aC⟩=aE (aJ (aE ⟨g,0,aC⟩) n c)/\w'.cell? ⟨g,k,aC⟩=aE (aI ⟨t.toArray⟩)) (first|exact⟨c0,cx⟩|go_keep) (fail)
  go_wp2;go_ret;exact⟨rfl,(bF _ _).drew⟩
def yE (w:aY) (B fb:Nat) (vO:aG) (o:List N.eE) (of:List N.eE) (dest:Option N.eE) (w' :aY):Prop:=
 Mv (λk=>k=fb\/vO.ownBlock=aE k) w w' /\∀o',N.turns o of dest=aE o' ->∃oJ,eZ w' B fb oJ o'
theorem W8 {of:List N.eE}{dest:Option N.eE}(hof:∀b∈of,b≠[]):(of.any λb=>o.getLast?.getD []==b)=(N.turns o of dest).isSome:=by
 unfold N.turns;cases h:o.getLast? with
 |none=>
  show(of.any λb=>([]:N.eE)==b)=aV;rw[Bool.eq_false_iff];intro hx;obtain⟨b,hb,he⟩:=List.any_eq_true.1 hx;exact hof b hb (eq_of_beq he).symm
 |some t=>
  simp only[Option.getD_some];cases hx:of.any λb=>t==b with
  |true=>simp
  |false=>simp
theorem Iq:∃i,(aQ).info? 9=aE i/\i.zero=aE (aI ⟨#[]⟩)/\i.size=1/\i.bytes=16:=nE (by kernel_rfl)
theorem rR (w:aY)(B fb gt ct:Nat)(vO:aG)(o of:List N.eE)(dest:Option N.eE)(hde:∀d,dest=aE d->d≠[])(hof:∀b∈of,b≠[])(h:eZ w B fb vO o)(hl:o.length<=1000)(ht:kE w gt of)(hBw:B<=w.heap.size):
 bH aQ 116 #[aK (aE ⟨fb,0,aC⟩),aJ (aE ⟨gt,0,aC⟩) of.length ct,aI ⟨(dest.getD []).toArray⟩] w λe w' =>e=aM (bB (N.turns o of dest).isSome)/\yE w B fb vO o of dest w' :=by
 obtain⟨iS,hi,hz,hs,jP⟩:=Iq;have oC:=LK w B fb vO o h hl;have nM:∀W,bA w.heap.size w W->bH aQ 41 #[aI ⟨(o.getLast?.getD []).toArray⟩,aJ (aE ⟨gt,0,aC⟩) of.length ct] W λe w' =>e=aM (bB (N.turns o of dest).isSome)/\w' =W:=λW hW=>by
  have:=sP ⟨(o.getLast?.getD []).toArray⟩ gt ct of W 9 (cF ht.2 (by decide)) (ht.below hW).1;rw[show(⟨(o.getLast?.getD []).toArray⟩:ByteArray).toList=o.getLast?.getD [] by rw[Go.ByteArray.toList_eq],W8 hof] at this;exact this
 have HL:=bE oC;have HI:=bE nM;have HF:=bE h;generalize of.length=nt at*;cases R7:N.turns o of dest with
 |none=>
  rw[R7] at HI;have HT:=bE R7;clear oC nM h R7;generalize o.getLast?.getD []=la at*;generalize(dest.getD [])=de at*;go_enter func116,ntmps116;go_wp2_with fail
  refine(aN HL).mono ?_;rintro e w1 ⟨rfl,fF⟩;have HB:=bE fF;clear fF;go_wp2_with fail
  refine(aN HI w1 (aN HB)).mono ?_;rintro e iF ⟨rfl,mG⟩;subst iF;go_wp2;go_ret;exact⟨rfl,Mv.dS (aN HB) _,λo' kT =>by rw[aN HT] at kT;cases kT⟩
 |some o1=>
  rw[R7] at HI;have hno:∃o' t,o=o' ++[t]/\o1=match dest with|none=>o' |some x=>o' ++[x]:=by
   unfold N.turns at R7;rcases List.eq_nil_or_concat o with h0|⟨o',t,ho⟩
   ·rw[h0] at R7;cases R7
   ·have ho:o=o' ++[t]:=by simpa using ho
    refine⟨o',t,ho,?_⟩;rw[ho,List.getLast?_concat] at R7;simp only at R7
    split at R7
    ·injection R7 with R7;rw[<-R7,List.dropLast_concat];cases dest <;> rfl
    ·cases R7
  obtain⟨o',t,rfl,be⟩:=hno;have hlen:(o' ++[t]).length=o'.length+1:=by simp
  obtain⟨a,c,rfl,hc⟩:=h.slice;have cm:∀W,bA w.heap.size w W->eZ W B fb (aJ a (o' ++[t]).length c) (o' ++[t]):=λW hW=>h.below hW
  have Oh:∀W,bA w.heap.size w W->eZ (W.setCell ⟨fb,0,aC⟩ (aJ a o'.length c)) B fb (aJ a o'.length c) o' /\Mv (λk=>k=fb\/(aJ a (o' ++[t]).length c).ownBlock=aE k) w (W.setCell ⟨fb,0,aC⟩ (aJ a o'.length c)):=λW hW=>by
   have hg:W.grownBy W (aJ a (o' ++[t]).length c).ownBlock:=⟨rfl,rfl,rfl,bD _,λ_ _ _=>rfl⟩
   refine h.put hW hg ?_;have:=tJ (cm W hW).row o'.length (by rw[hlen];omega);rw[LU] at this;exact this
  have HT:=bE (show ∀ox,N.turns (o' ++[t]) of dest=aE ox->ox=o1 from λox hx=>by rw[R7] at hx;injection hx with hx;exact hx.symm);have HSH:=bE Oh;have c0:∀W,bA w.heap.size w W->W.cell? ⟨fb,0,aC⟩=aE (aJ a (o'.length+1) c)/\W.frozen? ⟨fb,0,aC⟩=aV:=λW hW=>⟨by have:=aZ (j:=0) (cm W hW).c rfl;rwa[hlen] at this,bG 0 (cm W hW).c⟩
  have HC:=bE c0;rw[hlen] at hc hl;have i0:aF.wrap (((o'.length+1:Nat):Int)-1)=(o'.length:Int):=wj;have i1:(0:Int)<=(o'.length:Int):=by omega
  have i3:(o'.length:Int)<=(c:Int):=by omega
  clear oC nM h R7 Oh c0 cm hof;rw[List.getLast?_concat] at HL HI;simp only[Option.getD_some] at HL HI;cases dest with
  |none=>
   simp only at be;subst be;generalize hk:o1.length=k at*;generalize xI:k+1=n at*;clear xI;have HK:=bE hk;clear hk;show bH _ _ #[_,_,aI ⟨#[]⟩] _ _;go_enter func116,ntmps116;go_wp2_with fail
   refine(aN HL).mono ?_;rintro e w1 ⟨rfl,fF⟩;have HB:=bE fF;clear fF;go_wp2_with fail
   refine(aN HI w1 (aN HB)).mono ?_;rintro e iF ⟨rfl,mG⟩;subst iF;obtain⟨c1,f1⟩:=aN HC w1 (aN HB);go_wp2;go_region_law (fail)
   all_goals
    go_wp2;go_ret;have hh:=aN HSH w1 (aN HB);exact⟨rfl,⟨hh.2.os,hh.2.tape,hh.2.output,hh.2.size,hh.2.block⟩,λox hx=>by rw[aN HT ox hx];exact⟨_,hh.1.below (bF _ _).drew⟩⟩
  |some d=>
   simp only at be;have hdn:=hde d rfl;have hd0:(d==[])=aV:=by rw[beq_eq_false_iff_ne];exact hdn
   clear hde hdn;generalize hk:o'.length=k at*;generalize xI:k+1=n at*;have tC:k<=1000:=by omega
   clear xI;have HK:=bE hk;clear hk;simp only[Option.getD_some];go_enter func116,ntmps116;go_wp2_with fail
   refine(aN HL).mono ?_;rintro e w1 ⟨rfl,fF⟩;have HB:=bE fF;have hsz:=fF.size;clear fF;go_wp2_with fail
   refine(aN HI w1 (aN HB)).mono ?_;rintro e iF ⟨rfl,mG⟩;subst iF;obtain⟨c1,f1⟩:=aN HC w1 (aN HB);go_upto_region 4 with (fail)
   go_cut [] from 8 to 39 (λwx=>eZ wx B fb (aJ a k c) o' /\Mv (λx=>x=fb\/(aJ a (o' ++[t]).length c).ownBlock=aE x) w wx/\B<=wx.heap.size)
   case first=>
    have hh:=aN HSH w1 (aN HB);have HH:=bE hh;clear hh;go_region_law (fail)
    all_goals (go_wp2_with fail;go_meet;exact⟨(aN HH).1.below (bF _ _).drew,⟨(aN HH).2.os,(aN HH).2.tape,(aN HH).2.output,(aN HH).2.size,(aN HH).2.block⟩,cF hBw (aN HH).2.size⟩)
   case rest=>
   obtain⟨q1,q2,q3⟩:=hcut;have d1:=cq 0 q1.c rfl;have d2:=bG 0 q1.c;have nF:aE fb≠(aJ a k c).ownBlock:=λe=>q1.ne e.symm
   have HQ:=bE (bK q1 (bK q2 q3));have OS:=bE (show wc.ownsRow B 9 1 (aJ a k c) k (xK o') from by have:=q1.row;rwa[aN HK] at this);clear q1 q2 q3 c1 f1 i0 i1 i3 HSH HC;go_wp2_with (
    at_builtin
    refine wpList_append_lies _ (by rfl) (.tmp 34) (.tmp 36) 23 (by rfl) B 9 iS (aI ⟨#[]⟩) 1 16 underlying23 hi hz hs jP rfl (by decide) (aJ a k c) k (xK o') (by rfl) (by exact(aN OS).alloc _) ⟨wc.heap.size,0,aC⟩ 1 1 [aI ⟨d.toArray⟩] (by rfl) rfl (aY.news_of_block (heap_alloc_new wc _)) (λu hu=>by simp at hu;subst hu;rfl) (by decide) (by unfold maxLen;omega) (by omega) (by have:=(aN HQ).2.2;simp;omega) _ rfl ?_;intro g3 iG w3 jM dK qH Cc;have dK:(wc.alloc (aU #[aI ⟨d.toArray⟩] 9)).grownBy w3 (aJ a k c).ownBlock:=⟨dK.os,dK.tape,dK.output,dK.size,dK.block⟩
    have e1:(wc.alloc (aU #[aI ⟨d.toArray⟩] 9)).cell? ⟨fb,0,aC⟩=aE (aJ a k c):=bJ d1 _;have e2:(wc.alloc (aU #[aI ⟨d.toArray⟩] 9)).frozen? ⟨fb,0,aC⟩=aV:=cY (bU wc _ aC) d1 d2 (by simp);have e5:=dK.cell e1 nF;have f5:=cY dK e1 e2 nF;have G3:=bE dK;have O3:=bE jM;clear dK jM qH e1 e2)
   go_ret;obtain⟨q1,q2,q3⟩:=aN HQ;have t8:bA wc.heap.size wc (wc.alloc (aU #[aI ⟨d.toArray⟩] 9)):=(bF _ _).alloc (bD _) _;obtain⟨p1,p2⟩:=q1.put (o' :=o' ++[d]) (v' :=aJ (aE ⟨g3,0,aC⟩) (k+1) iG) t8 (aN G3) (by
    rw[bN,aN HK];unfold xK;rw[List.map_append];exact aN O3)
   refine⟨rfl,q2.trans (T' :=λx=>x=fb\/(aJ a k c).ownBlock=aE x) (λx hx=>?_) p2,λox hx=>by rw[(aN HT ox hx).trans be];exact⟨_,p1⟩⟩
   left
   rcases hx with hx|hx
   ·exact .inl hx
   ·right
    cases a with
    |none=>exact hx
    |some ad=>exact hx
def eT (w:aY) (B fb:Nat) (vO:aG) (o:List N.eE) (s:N.eE):Prop:=
 bH aQ 97 #[aK (aE ⟨fb,0,aC⟩),aI ⟨s.toArray⟩] w λe w' =>e=aM (bB (N.stands o s).isSome)/\Mv (λk=>k=fb\/vO.ownBlock=aE k) w w' /\∀o',N.stands o s=aE o' ->∃oJ,eZ w' B fb oJ o'
theorem PN (w:aY)(B fb:Nat)(vO:aG)(o:List N.eE)(h:eZ w B fb vO o)(hl:o.length<=1000)(s:N.eE):
 bH aQ 41 #[aI ⟨s.toArray⟩,vO] w λe w' =>e=aM (bB (o.any λb=>b==s))/\w' =w:=by
 rcases h.row.2 with ⟨h1,h2⟩|⟨g,cap,_,h1,_⟩
 ·have h0:o=[]:=List.eq_nil_of_length_eq_zero h2;subst h0;rw[h1];exact PR _ w
 ·subst h1;have:=QK ⟨s.toArray⟩ g 0 cap (o.map λl=>⟨l.toArray⟩) w (by simp;omega) (λj hj=>by
   have hj' :j<o.length:=by simpa using hj
   have:=h.row.cells (g:=g) rfl j (aI ⟨(o[j]).toArray⟩) (by unfold xK;rw[cI,bL hj'];rfl);rw[fE] at this;simpa using this)
  rw[dO] at this;refine this.mono λe w' hh=>⟨?_,hh.2⟩
  rw[hh.1,List.any_map];refine congrArg (λp=>aM (bB (o.any p))) (funext λl=>?_);simp only[Function.comp,Go.ByteArray.toList_eq]
theorem AM (w:aY)(B fb:Nat)(vO:aG)(o:List N.eE)(h:eZ w B fb vO o)(hl:o.length<=1000)(hBw:B<=w.heap.size):eT w B fb vO o [105,102]:=by
 unfold eT;obtain⟨iS,hi,hz,hs,jP⟩:=Iq;obtain⟨a,c,rfl,hc⟩:=h.slice;have hN:N.stands o [105,102]=aE (o++[[105,102]]):=rfl;rw[hN];have d1:=cq 0 h.c rfl;have d2:=bG 0 h.c;have nF:aE fb≠(aJ a o.length c).ownBlock:=λe=>h.ne e.symm
 have OS:=bE h.row;have HF:=bE h;clear h hN;generalize hk:o.length=k at*;have HK:=bE hk;clear hk;go_enter func97,ntmps97;go_wp2_with (
  at_builtin
  refine wpList_append_lies _ (by rfl) (.tmp 14) (.tmp 16) 23 (by rfl) B 9 iS (aI ⟨#[]⟩) 1 16 underlying23 hi hz hs jP rfl (by decide) (aJ a k c) k (xK o) (by rfl) (by exact(aN OS).alloc _) ⟨w.heap.size,0,aC⟩ 1 1 [aI ⟨#[105,102]⟩] (by rfl) rfl (aY.news_of_block (heap_alloc_new w _)) (λu hu=>by simp at hu;subst hu;rfl) (by decide) (by unfold maxLen;omega) (by omega) (by simp;omega) _ rfl ?_;intro g3 iG w3 jM dK qH Cc;have dK:(w.alloc (aU #[aI ⟨#[105,102]⟩] 9)).grownBy w3 (aJ a k c).ownBlock:=⟨dK.os,dK.tape,dK.output,dK.size,dK.block⟩
  have e1:(w.alloc (aU #[aI ⟨#[105,102]⟩] 9)).cell? ⟨fb,0,aC⟩=aE (aJ a k c):=bJ d1 _;have e2:(w.alloc (aU #[aI ⟨#[105,102]⟩] 9)).frozen? ⟨fb,0,aC⟩=aV:=cY (bU w _ aC) d1 d2 (by simp);have e5:=dK.cell e1 nF;have f5:=cY dK e1 e2 nF;have G3:=bE dK;have O3:=bE jM;clear dK jM qH e1 e2)
 go_ret;have t8:bA w.heap.size w (w.alloc (aU #[aI ⟨#[105,102]⟩] 9)):=(bF _ _).alloc (bD _) _;obtain⟨p1,p2⟩:=(aN HF).put (o' :=o++[[105,102]]) (v' :=aJ (aE ⟨g3,0,aC⟩) (k+1) iG) t8 (aN G3) (by
  rw[bN,aN HK];unfold xK;rw[List.map_append];exact aN O3)
 refine⟨rfl,?_,λo' kT =>?_⟩
 ·first
  |exact p2
  |(rw[aN HK];exact p2)
  |(rw[aN HK] at p2;exact p2)
 ·injection kT with kT;rw[<-kT];exact⟨_,p1⟩
theorem Tq (w:aY)(B fb:Nat)(vO:aG)(o:List N.eE)(h:eZ w B fb vO o)(hl:o.length<=1000)(hBw:B<=w.heap.size):eT w B fb vO o [98,101,103,105,110]:=by
 unfold eT;obtain⟨iS,hi,hz,hs,jP⟩:=Iq;obtain⟨a,c,rfl,hc⟩:=h.slice;have hN:N.stands o [98,101,103,105,110]=aE (o++[[98,101,103,105,110]]):=rfl;rw[hN];have d1:=cq 0 h.c rfl;have d2:=bG 0 h.c;have nF:aE fb≠(aJ a o.length c).ownBlock:=λe=>h.ne e.symm
 have OS:=bE h.row;have HF:=bE h;clear h hN;generalize hk:o.length=k at*;have HK:=bE hk;clear hk;go_enter func97,ntmps97;go_wp2_with (
  at_builtin
  refine wpList_append_lies _ (by rfl) (.tmp 14) (.tmp 16) 23 (by rfl) B 9 iS (aI ⟨#[]⟩) 1 16 underlying23 hi hz hs jP rfl (by decide) (aJ a k c) k (xK o) (by rfl) (by exact(aN OS).alloc _) ⟨w.heap.size,0,aC⟩ 1 1 [aI ⟨#[98,101,103,105,110]⟩] (by rfl) rfl (aY.news_of_block (heap_alloc_new w _)) (λu hu=>by simp at hu;subst hu;rfl) (by decide) (by unfold maxLen;omega) (by omega) (by simp;omega) _ rfl ?_;intro g3 iG w3 jM dK qH Cc;have dK:(w.alloc (aU #[aI ⟨#[98,101,103,105,110]⟩] 9)).grownBy w3 (aJ a k c).ownBlock:=⟨dK.os,dK.tape,dK.output,dK.size,dK.block⟩
  have e1:(w.alloc (aU #[aI ⟨#[98,101,103,105,110]⟩] 9)).cell? ⟨fb,0,aC⟩=aE (aJ a k c):=bJ d1 _;have e2:(w.alloc (aU #[aI ⟨#[98,101,103,105,110]⟩] 9)).frozen? ⟨fb,0,aC⟩=aV:=cY (bU w _ aC) d1 d2 (by simp);have e5:=dK.cell e1 nF;have f5:=cY dK e1 e2 nF;have G3:=bE dK;have O3:=bE jM;clear dK jM qH e1 e2)
 go_ret;have t8:bA w.heap.size w (w.alloc (aU #[aI ⟨#[98,101,103,105,110]⟩] 9)):=(bF _ _).alloc (bD _) _;obtain⟨p1,p2⟩:=(aN HF).put (o' :=o++[[98,101,103,105,110]]) (v' :=aJ (aE ⟨g3,0,aC⟩) (k+1) iG) t8 (aN G3) (by
  rw[bN,aN HK];unfold xK;rw[List.map_append];exact aN O3)
 refine⟨rfl,?_,λo' kT =>?_⟩
 ·first
  |exact p2
  |(rw[aN HK];exact p2)
  |(rw[aN HK] at p2;exact p2)
 ·injection kT with kT;rw[<-kT];exact⟨_,p1⟩
theorem Y0 (w:aY)(B fb:Nat)(vO:aG)(o:List N.eE)(h:eZ w B fb vO o)(hl:o.length<=1000)(hBw:B<=w.heap.size):eT w B fb vO o [100,111]:=by
 unfold eT;obtain⟨iS,hi,hz,hs,jP⟩:=Iq;obtain⟨a,c,rfl,hc⟩:=h.slice;have hN:N.stands o [100,111]=aE (o++[[100,111]]):=rfl;rw[hN];have d1:=cq 0 h.c rfl;have d2:=bG 0 h.c;have nF:aE fb≠(aJ a o.length c).ownBlock:=λe=>h.ne e.symm
 have OS:=bE h.row;have HF:=bE h;clear h hN;generalize hk:o.length=k at*;have HK:=bE hk;clear hk;go_enter func97,ntmps97;go_wp2_with (
  at_builtin
  refine wpList_append_lies _ (by rfl) (.tmp 14) (.tmp 16) 23 (by rfl) B 9 iS (aI ⟨#[]⟩) 1 16 underlying23 hi hz hs jP rfl (by decide) (aJ a k c) k (xK o) (by rfl) (by exact(aN OS).alloc _) ⟨w.heap.size,0,aC⟩ 1 1 [aI ⟨#[100,111]⟩] (by rfl) rfl (aY.news_of_block (heap_alloc_new w _)) (λu hu=>by simp at hu;subst hu;rfl) (by decide) (by unfold maxLen;omega) (by omega) (by simp;omega) _ rfl ?_;intro g3 iG w3 jM dK qH Cc;have dK:(w.alloc (aU #[aI ⟨#[100,111]⟩] 9)).grownBy w3 (aJ a k c).ownBlock:=⟨dK.os,dK.tape,dK.output,dK.size,dK.block⟩
  have e1:(w.alloc (aU #[aI ⟨#[100,111]⟩] 9)).cell? ⟨fb,0,aC⟩=aE (aJ a k c):=bJ d1 _;have e2:(w.alloc (aU #[aI ⟨#[100,111]⟩] 9)).frozen? ⟨fb,0,aC⟩=aV:=cY (bU w _ aC) d1 d2 (by simp);have e5:=dK.cell e1 nF;have f5:=cY dK e1 e2 nF;have G3:=bE dK;have O3:=bE jM;clear dK jM qH e1 e2)
 go_ret;have t8:bA w.heap.size w (w.alloc (aU #[aI ⟨#[100,111]⟩] 9)):=(bF _ _).alloc (bD _) _;obtain⟨p1,p2⟩:=(aN HF).put (o' :=o++[[100,111]]) (v' :=aJ (aE ⟨g3,0,aC⟩) (k+1) iG) t8 (aN G3) (by
  rw[bN,aN HK];unfold xK;rw[List.map_append];exact aN O3)
 refine⟨rfl,?_,λo' kT =>?_⟩
 ·first
  |exact p2
  |(rw[aN HK];exact p2)
  |(rw[aN HK] at p2;exact p2)
 ·injection kT with kT;rw[<-kT];exact⟨_,p1⟩
theorem Zc (w:aY)(B fb:Nat)(vO:aG)(o:List N.eE)(h:eZ w B fb vO o)(hl:o.length<=1000)(hBw:B<=w.heap.size):eT w B fb vO o [101,108,115,101]:=by
 unfold eT;have hN:N.stands o [101,108,115,101]=N.turns o [[105,102]] (aE [101,108,115,101]):=rfl;rw[hN];have fF:bA w.heap.size w (w.alloc (aU #[aI ⟨#[105,102]⟩] 9)):=(bF _ _).alloc (bD _) _;have ht:bH aQ 116 #[aK (aE ⟨fb,0,aC⟩),aJ (aE ⟨w.heap.size,0,aC⟩) 1 1,aI ⟨#[101,108,115,101]⟩] (w.alloc (aU #[aI ⟨#[105,102]⟩] 9)) λe w' =>e=aM (bB (N.turns o [[105,102]] (aE [101,108,115,101])).isSome)/\yE (w.alloc (aU #[aI ⟨#[105,102]⟩] 9)) B fb vO o [[105,102]] (aE [101,108,115,101]) w' :=rR (w.alloc (aU #[aI ⟨#[105,102]⟩] 9)) B fb w.heap.size 1 vO o [[105,102]] (aE [101,108,115,101]) (by intro d hd;injection hd with hd;rw[<-hd];simp) (by simp) (h.below fF) hl (jH w [[105,102]] _ rfl (by decide)) (by simp;omega)
 have HT:=bE ht;have HB:=bE fF;generalize hR:N.turns o [[105,102]] (aE [101,108,115,101])=R at*;have HR:=bE hR;clear ht fF hN hR h;go_enter func97,ntmps97;go_wp2_with fail
 refine(aN HT).mono ?_;rintro e w2 ⟨rfl,hm,hf⟩;have HG:=bE (bK hm hf);clear hm hf;go_wp2;go_ret;refine⟨rfl,(Mv.dS (aN HB) _).trans (dG.refl _ _) (aN HG).1,λo' kT =>(aN HG).2 o' ?_⟩;first
 |exact kT
 |(rw[aN HR];exact kT)
theorem Ya (w:aY)(B fb:Nat)(vO:aG)(o:List N.eE)(h:eZ w B fb vO o)(hl:o.length<=1000)(hBw:B<=w.heap.size):eT w B fb vO o [116,104,101,110]:=by
 unfold eT;have hN:N.stands o [116,104,101,110]=N.turns o [[105,102],[101,108,115,101]] aC:=rfl;rw[hN];have fF:bA w.heap.size w (w.alloc (aU #[aI ⟨#[105,102]⟩,aI ⟨#[101,108,115,101]⟩] 9)):=(bF _ _).alloc (bD _) _;have ht:bH aQ 116 #[aK (aE ⟨fb,0,aC⟩),aJ (aE ⟨w.heap.size,0,aC⟩) 2 2,aI ⟨#[]⟩] (w.alloc (aU #[aI ⟨#[105,102]⟩,aI ⟨#[101,108,115,101]⟩] 9)) λe w' =>e=aM (bB (N.turns o [[105,102],[101,108,115,101]] aC).isSome)/\yE (w.alloc (aU #[aI ⟨#[105,102]⟩,aI ⟨#[101,108,115,101]⟩] 9)) B fb vO o [[105,102],[101,108,115,101]] aC w' :=rR (w.alloc (aU #[aI ⟨#[105,102]⟩,aI ⟨#[101,108,115,101]⟩] 9)) B fb w.heap.size 2 vO o [[105,102],[101,108,115,101]] aC (by intro d hd;cases hd) (by simp) (h.below fF) hl (jH w [[105,102],[101,108,115,101]] _ rfl (by decide)) (by simp;omega)
 have HT:=bE ht;have HB:=bE fF;generalize hR:N.turns o [[105,102],[101,108,115,101]] aC=R at*;have HR:=bE hR;clear ht fF hN hR h;go_enter func97,ntmps97;go_wp2_with fail
 refine(aN HT).mono ?_;rintro e w2 ⟨rfl,hm,hf⟩;have HG:=bE (bK hm hf);clear hm hf;go_wp2;go_ret;refine⟨rfl,(Mv.dS (aN HB) _).trans (dG.refl _ _) (aN HG).1,λo' kT =>(aN HG).2 o' ?_⟩;first
 |exact kT
 |(rw[aN HR];exact kT)
theorem Uf (w:aY)(B fb:Nat)(vO:aG)(o:List N.eE)(h:eZ w B fb vO o)(hl:o.length<=1000)(hBw:B<=w.heap.size):eT w B fb vO o [117,110,116,105,108]:=by
 unfold eT;have hN:N.stands o [117,110,116,105,108]=N.turns o [[98,101,103,105,110]] aC:=rfl;rw[hN];have fF:bA w.heap.size w (w.alloc (aU #[aI ⟨#[98,101,103,105,110]⟩] 9)):=(bF _ _).alloc (bD _) _;have ht:bH aQ 116 #[aK (aE ⟨fb,0,aC⟩),aJ (aE ⟨w.heap.size,0,aC⟩) 1 1,aI ⟨#[]⟩] (w.alloc (aU #[aI ⟨#[98,101,103,105,110]⟩] 9)) λe w' =>e=aM (bB (N.turns o [[98,101,103,105,110]] aC).isSome)/\yE (w.alloc (aU #[aI ⟨#[98,101,103,105,110]⟩] 9)) B fb vO o [[98,101,103,105,110]] aC w' :=rR (w.alloc (aU #[aI ⟨#[98,101,103,105,110]⟩] 9)) B fb w.heap.size 1 vO o [[98,101,103,105,110]] aC (by intro d hd;cases hd) (by simp) (h.below fF) hl (jH w [[98,101,103,105,110]] _ rfl (by decide)) (by simp;omega)
 have HT:=bE ht;have HB:=bE fF;generalize hR:N.turns o [[98,101,103,105,110]] aC=R at*;have HR:=bE hR;clear ht fF hN hR h;go_enter func97,ntmps97;go_wp2_with fail
 refine(aN HT).mono ?_;rintro e w2 ⟨rfl,hm,hf⟩;have HG:=bE (bK hm hf);clear hm hf;go_wp2;go_ret;refine⟨rfl,(Mv.dS (aN HB) _).trans (dG.refl _ _) (aN HG).1,λo' kT =>(aN HG).2 o' ?_⟩;first
 |exact kT
 |(rw[aN HR];exact kT)
theorem Tp (w:aY)(B fb:Nat)(vO:aG)(o:List N.eE)(h:eZ w B fb vO o)(hl:o.length<=1000)(hBw:B<=w.heap.size):eT w B fb vO o [97,103,97,105,110]:=by
 unfold eT;have hN:N.stands o [97,103,97,105,110]=N.turns o [[98,101,103,105,110]] aC:=rfl;rw[hN];have fF:bA w.heap.size w (w.alloc (aU #[aI ⟨#[98,101,103,105,110]⟩] 9)):=(bF _ _).alloc (bD _) _;have ht:bH aQ 116 #[aK (aE ⟨fb,0,aC⟩),aJ (aE ⟨w.heap.size,0,aC⟩) 1 1,aI ⟨#[]⟩] (w.alloc (aU #[aI ⟨#[98,101,103,105,110]⟩] 9)) λe w' =>e=aM (bB (N.turns o [[98,101,103,105,110]] aC).isSome)/\yE (w.alloc (aU #[aI ⟨#[98,101,103,105,110]⟩] 9)) B fb vO o [[98,101,103,105,110]] aC w' :=rR (w.alloc (aU #[aI ⟨#[98,101,103,105,110]⟩] 9)) B fb w.heap.size 1 vO o [[98,101,103,105,110]] aC (by intro d hd;cases hd) (by simp) (h.below fF) hl (jH w [[98,101,103,105,110]] _ rfl (by decide)) (by simp;omega)
 have HT:=bE ht;have HB:=bE fF;generalize hR:N.turns o [[98,101,103,105,110]] aC=R at*;have HR:=bE hR;clear ht fF hN hR h;go_enter func97,ntmps97;go_wp2_with fail
 refine(aN HT).mono ?_;rintro e w2 ⟨rfl,hm,hf⟩;have HG:=bE (bK hm hf);clear hm hf;go_wp2;go_ret;refine⟨rfl,(Mv.dS (aN HB) _).trans (dG.refl _ _) (aN HG).1,λo' kT =>(aN HG).2 o' ?_⟩;first
 |exact kT
 |(rw[aN HR];exact kT)
theorem Ui (w:aY)(B fb:Nat)(vO:aG)(o:List N.eE)(h:eZ w B fb vO o)(hl:o.length<=1000)(hBw:B<=w.heap.size):eT w B fb vO o [119,104,105,108,101]:=by
 unfold eT;have hN:N.stands o [119,104,105,108,101]=N.turns o [[98,101,103,105,110]] (aE [119,104,105,108,101]):=rfl;rw[hN];have fF:bA w.heap.size w (w.alloc (aU #[aI ⟨#[98,101,103,105,110]⟩] 9)):=(bF _ _).alloc (bD _) _;have ht:bH aQ 116 #[aK (aE ⟨fb,0,aC⟩),aJ (aE ⟨w.heap.size,0,aC⟩) 1 1,aI ⟨#[119,104,105,108,101]⟩] (w.alloc (aU #[aI ⟨#[98,101,103,105,110]⟩] 9)) λe w' =>e=aM (bB (N.turns o [[98,101,103,105,110]] (aE [119,104,105,108,101])).isSome)/\yE (w.alloc (aU #[aI ⟨#[98,101,103,105,110]⟩] 9)) B fb vO o [[98,101,103,105,110]] (aE [119,104,105,108,101]) w' :=rR (w.alloc (aU #[aI ⟨#[98,101,103,105,110]⟩] 9)) B fb w.heap.size 1 vO o [[98,101,103,105,110]] (aE [119,104,105,108,101]) (by intro d hd;injection hd with hd;rw[<-hd];simp) (by simp) (h.below fF) hl (jH w [[98,101,103,105,110]] _ rfl (by decide)) (by simp;omega)
 have HT:=bE ht;have HB:=bE fF;generalize hR:N.turns o [[98,101,103,105,110]] (aE [119,104,105,108,101])=R at*;have HR:=bE hR;clear ht fF hN hR h;go_enter func97,ntmps97;go_wp2_with fail
 refine(aN HT).mono ?_;rintro e w2 ⟨rfl,hm,hf⟩;have HG:=bE (bK hm hf);clear hm hf;go_wp2;go_ret;refine⟨rfl,(Mv.dS (aN HB) _).trans (dG.refl _ _) (aN HG).1,λo' kT =>(aN HG).2 o' ?_⟩;first
 |exact kT
 |(rw[aN HR];exact kT)
theorem Om (w:aY)(B fb:Nat)(vO:aG)(o:List N.eE)(h:eZ w B fb vO o)(hl:o.length<=1000)(hBw:B<=w.heap.size):eT w B fb vO o [114,101,112,101,97,116]:=by
 unfold eT;have hN:N.stands o [114,101,112,101,97,116]=N.turns o [[119,104,105,108,101]] aC:=rfl;rw[hN];have fF:bA w.heap.size w (w.alloc (aU #[aI ⟨#[119,104,105,108,101]⟩] 9)):=(bF _ _).alloc (bD _) _;have ht:bH aQ 116 #[aK (aE ⟨fb,0,aC⟩),aJ (aE ⟨w.heap.size,0,aC⟩) 1 1,aI ⟨#[]⟩] (w.alloc (aU #[aI ⟨#[119,104,105,108,101]⟩] 9)) λe w' =>e=aM (bB (N.turns o [[119,104,105,108,101]] aC).isSome)/\yE (w.alloc (aU #[aI ⟨#[119,104,105,108,101]⟩] 9)) B fb vO o [[119,104,105,108,101]] aC w' :=rR (w.alloc (aU #[aI ⟨#[119,104,105,108,101]⟩] 9)) B fb w.heap.size 1 vO o [[119,104,105,108,101]] aC (by intro d hd;cases hd) (by simp) (h.below fF) hl (jH w [[119,104,105,108,101]] _ rfl (by decide)) (by simp;omega)
 have HT:=bE ht;have HB:=bE fF;generalize hR:N.turns o [[119,104,105,108,101]] aC=R at*;have HR:=bE hR;clear ht fF hN hR h;go_enter func97,ntmps97;go_wp2_with fail
 refine(aN HT).mono ?_;rintro e w2 ⟨rfl,hm,hf⟩;have HG:=bE (bK hm hf);clear hm hf;go_wp2;go_ret;refine⟨rfl,(Mv.dS (aN HB) _).trans (dG.refl _ _) (aN HG).1,λo' kT =>(aN HG).2 o' ?_⟩;first
 |exact kT
 |(rw[aN HR];exact kT)
theorem Xk (w:aY)(B fb:Nat)(vO:aG)(o:List N.eE)(h:eZ w B fb vO o)(hl:o.length<=1000)(hBw:B<=w.heap.size):eT w B fb vO o [108,111,111,112]:=by
 unfold eT;have hN:N.stands o [108,111,111,112]=N.turns o [[100,111]] aC:=rfl;rw[hN];have fF:bA w.heap.size w (w.alloc (aU #[aI ⟨#[100,111]⟩] 9)):=(bF _ _).alloc (bD _) _;have ht:bH aQ 116 #[aK (aE ⟨fb,0,aC⟩),aJ (aE ⟨w.heap.size,0,aC⟩) 1 1,aI ⟨#[]⟩] (w.alloc (aU #[aI ⟨#[100,111]⟩] 9)) λe w' =>e=aM (bB (N.turns o [[100,111]] aC).isSome)/\yE (w.alloc (aU #[aI ⟨#[100,111]⟩] 9)) B fb vO o [[100,111]] aC w' :=rR (w.alloc (aU #[aI ⟨#[100,111]⟩] 9)) B fb w.heap.size 1 vO o [[100,111]] aC (by intro d hd;cases hd) (by simp) (h.below fF) hl (jH w [[100,111]] _ rfl (by decide)) (by simp;omega)
 have HT:=bE ht;have HB:=bE fF;generalize hR:N.turns o [[100,111]] aC=R at*;have HR:=bE hR;clear ht fF hN hR h;go_enter func97,ntmps97;go_wp2_with fail
 refine(aN HT).mono ?_;rintro e w2 ⟨rfl,hm,hf⟩;have HG:=bE (bK hm hf);clear hm hf;go_wp2;go_ret;refine⟨rfl,(Mv.dS (aN HB) _).trans (dG.refl _ _) (aN HG).1,λo' kT =>(aN HG).2 o' ?_⟩;first
 |exact kT
 |(rw[aN HR];exact kT)
theorem JR (w:aY)(B fb:Nat)(vO:aG)(o:List N.eE)(h:eZ w B fb vO o)(hl:o.length<=1000):eT w B fb vO o [105]:=by
 unfold eT;obtain⟨a,c,rfl,hc⟩:=h.slice;have hN:N.stands o [105]=if o.any (λb=>b==N.iR) then aE o else aC:=rfl;rw[hN];have d1:=cq 0 h.c rfl;have HI:=bE (show bH aQ 41 #[aI ⟨#[100,111]⟩,aJ a o.length c] w λe w' =>e=aM (bB (o.any λb=>b==N.iR))/\w' =w from PN w B fb _ o h hl N.iR);have HF:=bE h;clear h hN hc hl;generalize hk:o.length=k at*;have HK:=bE hk;clear hk;generalize(o.any λb=>b==N.iR)=r at*;generalize hR:(if r then aE o else aC)=R at*;have HR:=bE hR;clear hR;go_enter func97,ntmps97;go_wp2_with fail
 refine(aN HI).mono ?_;rintro e iF ⟨rfl,mG⟩;subst iF;go_wp2;go_ret;have hR:=aN HR;refine⟨by rw[<-hR];cases r <;> rfl,Mv.refl _ _,λo' kT =>?_⟩;rw[<-hR] at kT;cases r with
 |false=>cases kT
 |true=>
  have kT :aE o=aE o' :=kT;injection kT with kT;rw[<-kT];exact⟨_,aN HF⟩
theorem Uw (w:aY)(B fb:Nat)(vO:aG)(o:List N.eE)(h:eZ w B fb vO o)(hl:o.length<=1000):eT w B fb vO o [108,101,97,118,101]:=by
 unfold eT;obtain⟨a,c,rfl,hc⟩:=h.slice;have hN:N.stands o [108,101,97,118,101]=if o.any (λb=>b==N.iR) then aE o else aC:=rfl;rw[hN];have d1:=cq 0 h.c rfl;have HI:=bE (show bH aQ 41 #[aI ⟨#[100,111]⟩,aJ a o.length c] w λe w' =>e=aM (bB (o.any λb=>b==N.iR))/\w' =w from PN w B fb _ o h hl N.iR);have HF:=bE h;clear h hN hc hl;generalize hk:o.length=k at*;have HK:=bE hk;clear hk;generalize(o.any λb=>b==N.iR)=r at*;generalize hR:(if r then aE o else aC)=R at*;have HR:=bE hR;clear hR;go_enter func97,ntmps97;go_wp2_with fail
 refine(aN HI).mono ?_;rintro e iF ⟨rfl,mG⟩;subst iF;go_wp2;go_ret;have hR:=aN HR;refine⟨by rw[<-hR];cases r <;> rfl,Mv.refl _ _,λo' kT =>?_⟩;rw[<-hR] at kT;cases r with
 |false=>cases kT
 |true=>
  have kT :aE o=aE o' :=kT;injection kT with kT;rw[<-kT];exact⟨_,aN HF⟩
theorem Nb (w:aY)(B fb:Nat)(vO:aG)(o:List N.eE)(h:eZ w B fb vO o):eT w B fb vO o [114,101,99,117,114,115,101]:=by
 unfold eT;have hN:N.stands o [114,101,99,117,114,115,101]=aE o:=rfl;rw[hN];have HF:=bE h;clear h hN;go_enter func97,ntmps97;go_wp2;go_ret;refine⟨rfl,Mv.refl _ _,λo' kT =>?_⟩;injection kT with kT;rw[<-kT];exact⟨_,aN HF⟩
theorem Zv (w:aY)(B fb:Nat)(vO:aG)(o:List N.eE)(h:eZ w B fb vO o):eT w B fb vO o [101,120,105,116]:=by
 unfold eT;have hN:N.stands o [101,120,105,116]=aE o:=rfl;rw[hN];have HF:=bE h;clear h hN;go_enter func97,ntmps97;go_wp2;go_ret;refine⟨rfl,Mv.refl _ _,λo' kT =>?_⟩;injection kT with kT;rw[<-kT];exact⟨_,aN HF⟩
theorem I1 (w:aY)(B fb:Nat)(vO:aG)(o:List N.eE)(h:eZ w B fb vO o):eT w B fb vO o [39]:=by
 unfold eT;have hN:N.stands o [39]=aE o:=rfl;rw[hN];have HF:=bE h;clear h hN;go_enter func97,ntmps97;go_wp2;go_ret;refine⟨rfl,Mv.refl _ _,λo' kT =>?_⟩;injection kT with kT;rw[<-kT];exact⟨_,aN HF⟩
theorem Ug (w:aY)(B fb:Nat)(vO:aG)(o:List N.eE):eT w B fb vO o [58]:=by
 unfold eT;have hN:N.stands o [58]=aC:=rfl;rw[hN];clear hN;go_enter func97,ntmps97;go_wp2;go_ret;exact⟨rfl,Mv.refl _ _,λo' kT =>by cases kT⟩
theorem Zk (w:aY)(B fb:Nat)(vO:aG)(o:List N.eE):eT w B fb vO o [59]:=by
 unfold eT;have hN:N.stands o [59]=aC:=rfl;rw[hN];clear hN;go_enter func97,ntmps97;go_wp2;go_ret;exact⟨rfl,Mv.refl _ _,λo' kT =>by cases kT⟩
theorem Km (w:aY)(B fb:Nat)(vO:aG)(o:List N.eE):eT w B fb vO o [118,97,114,105,97,98,108,101]:=by
 unfold eT;have hN:N.stands o [118,97,114,105,97,98,108,101]=aC:=rfl;rw[hN];clear hN;go_enter func97,ntmps97;go_wp2;go_ret;exact⟨rfl,Mv.refl _ _,λo' kT =>by cases kT⟩
theorem Kg (w:aY)(B fb:Nat)(vO:aG)(o:List N.eE):eT w B fb vO o [99,111,110,115,116,97,110,116]:=by
 unfold eT;have hN:N.stands o [99,111,110,115,116,97,110,116]=aC:=rfl;rw[hN];clear hN;go_enter func97,ntmps97;go_wp2;go_ret;exact⟨rfl,Mv.refl _ _,λo' kT =>by cases kT⟩
theorem Rm (w:aY)(B fb:Nat)(vO:aG)(o:List N.eE):eT w B fb vO o [109,97,114,107,101,114]:=by
 unfold eT;have hN:N.stands o [109,97,114,107,101,114]=aC:=rfl;rw[hN];clear hN;go_enter func97,ntmps97;go_wp2;go_ret;exact⟨rfl,Mv.refl _ _,λo' kT =>by cases kT⟩
theorem Pa (w:aY)(B fb:Nat)(vO:aG)(o:List N.eE):eT w B fb vO o [102,111,114,103,101,116]:=by
 unfold eT;have hN:N.stands o [102,111,114,103,101,116]=aC:=rfl;rw[hN];clear hN;go_enter func97,ntmps97;go_wp2;go_ret;exact⟨rfl,Mv.refl _ _,λo' kT =>by cases kT⟩
theorem uJ (w:aY)(B fb:Nat)(vO:aG)(o:List N.eE)(s:N.eE)(hs:L.fJ s=aX)(h:eZ w B fb vO o)(hl:o.length<=1000)(hBw:B<=w.heap.size):eT w B fb vO o s:=by
 have hm:s∈L.wR:=by
  unfold L.fJ at hs;obtain⟨b,hb,he⟩:=List.any_eq_true.1 hs;rw[eq_of_beq he];exact hb
 simp only[L.wR,List.mem_cons,dR,or_false] at hm;rcases hm with rfl|rfl|rfl|rfl|rfl|rfl|rfl|rfl|rfl|rfl|rfl|rfl|rfl|rfl|rfl|rfl|rfl|rfl|rfl|rfl|rfl
 ·exact Ug w B fb vO o
 ·exact Zk w B fb vO o
 ·exact Km w B fb vO o
 ·exact Kg w B fb vO o
 ·exact Rm w B fb vO o
 ·exact Pa w B fb vO o
 ·exact I1 w B fb vO o h
 ·exact Nb w B fb vO o h
 ·exact AM w B fb vO o h hl hBw
 ·exact Zc w B fb vO o h hl hBw
 ·exact Ya w B fb vO o h hl hBw
 ·exact Tq w B fb vO o h hl hBw
 ·exact Uf w B fb vO o h hl hBw
 ·exact Tp w B fb vO o h hl hBw
 ·exact Ui w B fb vO o h hl hBw
 ·exact Om w B fb vO o h hl hBw
 ·exact Y0 w B fb vO o h hl hBw
 ·exact Xk w B fb vO o h hl hBw
 ·exact JR w B fb vO o h hl
 ·exact Uw w B fb vO o h hl
 ·exact Zv w B fb vO o h
def fQ (m:N.cE) (ws:List N.eE) (p:Nat) (o:List N.eE) (s:N.eE):Int×N.Cell×List N.eE×Nat:=
 if L.fJ s=aV then
  (match N.iU m s with
   |none=>(2,⟨1,0,[]⟩,o,p)
   |some c=>(0,c,o,p))
 else match N.stands o s with
  |none=>(3,⟨0,0,[]⟩,o,p)
  |some o1=>
   if s==[39] then
    (if N.dB m ws[p]? aV≠0 then(N.dB m ws[p]? aV,⟨0,0,[]⟩,o1,p) else
     match N.fP m ((ws[p]?).getD []) with
     |none=>(2,⟨0,0,[]⟩,o1,p)
     |some k=>(0,⟨1,1000+k,[]⟩,o1,p+1))
   else(0,⟨4,0,s⟩,o1,p)
def rW (xb fb:Nat) (vO:aG):Nat->Prop:=λk=>k=xb\/k=fb\/vO.ownBlock=aE k
def qY (w:aY) (rb xb fb B:Nat) (vO vW:aG) (m:N.cE) (ws:List N.eE) (p:Nat) (o:List N.eE) (s:N.eE):Prop:=
 bH aQ 72 #[aK (aE ⟨xb,0,aC⟩),aK (aE ⟨fb,0,aC⟩),aI ⟨s.toArray⟩] w λe w' =>e=aM (bC #[xZ (fQ m ws p o s).2.1,aH aF (fQ m ws p o s).1])/\Mv (rW xb fb vO) w w' /\((fQ m ws p o s).1=0->eH w' xb rb vW ws (fQ m ws p o s).2.2.2/\∃oJ,eZ w' B fb oJ (fQ m ws p o s).2.2.1)
variable {xb rb p:Nat}{vW:aG}{ws:List N.eE}
theorem eZ.M1 (h:eZ w B fb vO o)(hl:eH w xb rb vW ws p)(hW:∀k,vW.ownBlock=aE k->k<B):xb≠fb/\vO.ownBlock≠aE xb/\vW.ownBlock≠aE fb/\∀k,vW.ownBlock=aE k->vO.ownBlock≠aE k:=by
 refine⟨λe=>?_,λe=>?_,λe=>?_,λk e1 e2=>?_⟩
 ·have:=hl.c;rw[e] at this;exact absurd (cM this h.c) (by decide)
 ·obtain⟨_,h'⟩:=cZ (tO h.row) e;exact absurd (cM hl.c h') (by decide)
 ·obtain⟨_,h'⟩:=cZ hl.l e;exact absurd (cM h.c h') (by decide)
 ·have h1:=hW k e1;have h2:=qC h.row e2;omega
variable {vA vS vR:aG}{bs:List aG}{m:N.cE}
theorem cH.GA (h:cH w rb vA vS vR bs m)(hl:eH w xb rb vW ws p)(hf:eZ w B fb vO o)(hm:Mv (rW xb fb vO) w w'):cH w' rb vA vS vR bs m:=by
 have key:∀k,rW xb fb vO k->¬dV rb vA vS vR k/\¬tN w k:=by
  rintro k (rfl|rfl|e)
  ·exact⟨h.lK hl.c (by decide) (by decide) (by decide),λ⟨_,_,hb⟩=>absurd (cM hl.c hb) (by decide)⟩
  ·exact⟨h.lK hf.c (by decide) (by decide) (by decide),λ⟨_,_,hb⟩=>absurd (cM hf.c hb) (by decide)⟩
  ·obtain⟨_,h'⟩:=cZ (tO hf.row) e;exact⟨h.lK h' (by decide) (by decide) (by decide),λ⟨_,_,hb⟩=>absurd (cM h' hb) (by decide)⟩
 exact h.kept (λk hk=>hm.block k (h.lt k hk) λx=>(key k x).1 hk) λk hk=>hm.block k (fW hk) λx=>(key k x).2 hk
theorem eH.GA (hl:eH w xb rb vW ws p)(hf:eZ w B fb vO o)(hW:∀k,vW.ownBlock=aE k->k<B)(hm:Mv (λk=>k=fb\/vO.ownBlock=aE k) w w'):eH w' xb rb vW ws p:=by
 obtain⟨n1,n2,n3,n4⟩:=hf.M1 hl hW;refine hl.kept (hm.block xb (cC hl.c) ?_) λk e=>hm.block k (hl.l.lt k e).2 ?_
 ·rintro(x|x)
  ·exact n1 x
  ·exact n2 x
 ·rintro(x|x)
  ·exact n3 (x▸e)
  ·exact n4 k e x
theorem eZ.GG (hf:eZ w B fb vO o)(hl:eH w xb rb vW ws p)(hW:∀k,vW.ownBlock=aE k->k<B)(hm:Mv (λk=>k=xb) w w'):eZ w' B fb vO o:=by
 obtain⟨n1,n2,_,_⟩:=hf.M1 hl hW;exact⟨(hm.block fb (cC hf.c) λx=>n1 x.symm).trans hf.c,cK hf.row λk e=>hm.block k (hf.row.lt k e).2 λx=>n2 (x▸e),hf.ge⟩
variable {b i:Nat}{u:aG}{cs:Array aG}{fr:Nat×Nat}
theorem eH.Bf (hl:eH w xb rb vW ws p)(hb:w.heap[b]?=aE (aU cs 101 fr)):eH (w.setCell ⟨b,i,aC⟩ u) xb rb vW ws p:=by
 refine hl.kept (dA λe=>?_) λk e=>dA λx=>?_
 ·rw[<-e] at hb;exact absurd (cM hl.c hb) (by decide)
 ·obtain⟨_,h'⟩:=cZ hl.l e;rw[x] at h';exact absurd (cM h' hb) (by decide)
theorem eZ.Bf (hf:eZ w B fb vO o)(hb:w.heap[b]?=aE (aU cs 101 fr)):eZ (w.setCell ⟨b,i,aC⟩ u) B fb vO o:=by
 refine⟨(dA λe=>?_).trans hf.c,cK hf.row λk e=>dA λx=>?_,hf.ge⟩
 ·rw[<-e] at hb;exact absurd (cM hf.c hb) (by decide)
 ·obtain⟨_,h'⟩:=cZ (tO hf.row) e;rw[x] at h';exact absurd (cM h' hb) (by decide)
variable {T:Nat->Prop}
theorem Mv.m7 (h:Mv T w w2)(hb:w.heap.size<=b)(u0 u1 u2:aG):Mv T w (((w2.setCell ⟨b,0,aC⟩ u0).setCell ⟨b,1,aC⟩ u1).setCell ⟨b,2,aC⟩ u2):=((h.setCell (p:=⟨b,0,aC⟩) (.inr hb) u0).setCell (p:=⟨b,1,aC⟩) (.inr hb) u1).setCell (p:=⟨b,2,aC⟩) (.inr hb) u2
structure jf (w:aY) (rb xb fb B p:Nat) (vA vS vR vO vW:aG) (bs:List aG) (m:N.cE) (ws o:List N.eE):Prop where
 h:cH w rb vA vS vR bs m
 hl:eH w xb rb vW ws p
 hf:eZ w B fb vO o
 hW:∀k,vW.ownBlock=aE k->k<B
 Jf:o.length<=1000
 hBw:B<=w.heap.size
theorem jg (w:aY){s:N.eE}{b:Bool}(hb:L.fJ s=b):bH aQ 54 #[aI ⟨s.toArray⟩] (w.alloc (aU #[aH aF 0,aH aF 0,aI ⟨#[]⟩] 101)) λe w' =>e=aM (bB b)/\bA w.heap.size w w' /\w'.heap[w.heap.size]?=aE (aU #[aH aF 0,aH aF 0,aI ⟨#[]⟩] 101):=by
 have vK:=rI ⟨s.toArray⟩ (w.alloc (aU #[aH aF 0,aH aF 0,aI ⟨#[]⟩] 101));rw[Go.ByteArray.toList_eq,show(⟨s.toArray⟩:ByteArray).data.toList=s from rfl,hb] at vK;exact vK.mono λe w' hh=>⟨hh.1,lZ ((bF _ _).alloc (bD _) _) hh.2,(hh.2.block w.heap.size (by simp)).trans (heap_alloc_new w _)⟩
theorem jh {s:N.eE}(q:jf w rb xb fb B p vA vS vR vO vW bs m ws o)(hJ:L.fJ s=aX){r:Option (List N.eE)}(zC:N.stands o s=r)(b:Bool)(hb:r.isSome=b)(w1:aY)(h1:bA w.heap.size w w1)(h2:w1.heap[w.heap.size]?=aE (aU #[aH aF 0,aH aF 0,aI ⟨#[]⟩] 101)):bH aQ 97 #[aK (aE ⟨fb,0,aC⟩),aI ⟨s.toArray⟩] w1 λe w' =>e=aM (bB b)/\Mv (rW xb fb vO) w w' /\eH w' xb rb vW ws p/\cH w' rb vA vS vR bs m/\w'.heap[w.heap.size]?=aE (aU #[aH aF 0,aH aF 0,aI ⟨#[]⟩] 101)/\∀o1,r=aE o1->∃oJ,eZ w' B fb oJ o1:=by
 have:=uJ w1 B fb vO o s hJ (q.hf.below h1) q.Jf (cF q.hBw h1.size);unfold eT at this;rw[zC,hb] at this;refine this.mono λe w' hh=>?_
 obtain⟨q1,q2,q3⟩:=hh;have pL:Mv (rW xb fb vO) w1 w' :=q2.weaken λk hk=>.inr hk
 have zF:¬(w.heap.size=fb\/vO.ownBlock=aE w.heap.size):=by
  rintro(x|x)
  ·have:=cC q.hf.c;omega
  ·have:=(q.hf.row.lt _ x).2;omega
 exact⟨q1,(Mv.dS h1 _).trans (dG.refl _ _) pL,(q.hl.below h1).GA (q.hf.below h1) q.hW q2,(q.h.below h1).GA (q.hl.below h1) (q.hf.below h1) pL,(q2.block w.heap.size (cC h2) zF).trans h2,q3⟩
theorem ji (q:jf w rb xb fb B p vA vS vR vO vW bs m ws o){o1:List N.eE}(w2:aY)(Ns:aG)(g1:Mv (rW xb fb vO) w w2)(g2:eH w2 xb rb vW ws p)(g3:cH w2 rb vA vS vR bs m)(g4:w2.heap[w.heap.size]?=aE (aU #[aH aF 0,aH aF 0,aI ⟨#[]⟩] 101))(g5:eZ w2 B fb Ns o1){t:N.eE}{er:Int}(ht:mK m ws[p]? aV=t)(he:N.dB m ws[p]? aV=er):bH aQ 71 #[aK (aE ⟨xb,0,aC⟩),bB aV] w2 λe w' =>e=aM (bC #[aI ⟨t.toArray⟩,aH aF er])/\Mv (rW xb fb vO) w w' /\eH w' xb rb vW ws (oQ p ws[p]?)/\cH w' rb vA vS vR bs m/\w'.heap[w.heap.size]?=aE (aU #[aH aF 0,aH aF 0,aI ⟨#[]⟩] 101)/\eZ w' B fb Ns o1:=by
 subst ht he;refine(pH w2 rb xb p vA vS vR bs m vW ws aV g3 g2).mono λe w' hh=>?_
 obtain⟨q1,q2,q3,q4⟩:=hh;exact⟨q1,g1.trans (dG.refl _ _) (q4.weaken λk hk=>.inl hk),q3,q2,(q4.block w.heap.size (cC g4) (λx=>by have:=cC q.hl.c;omega)).trans g4,g5.GG g2 q.hW q4⟩
theorem jm {t:N.eE}{r:Option Nat}(hk:N.fP m t=r)(v:aG)(hv:nJ r=v)(w3:aY)(h3:cH w3 rb vA vS vR bs m):bH aQ 49 #[aK (aE ⟨rb,0,aC⟩),aI ⟨t.toArray⟩] w3 λe w' =>e=aM v/\w' =w3:=by
 subst hk hv;exact uK w3 rb vA vS vR bs m ⟨t.toArray⟩ h3
theorem K4 {s:N.eE}(q:jf w rb xb fb B p vA vS vR vO vW bs m ws o)(hJ:L.fJ s=aV)(c:N.Cell)(zY:N.iU m s=aE c):qY w rb xb fb B vO vW m ws p o s:=by
 have MI:=bE (jg w hJ);have HQ:=bE q;unfold qY;have dJ:fQ m ws p o s=(0,c,o,p):=by
  unfold fQ;rw[eJ hJ,zY]
 rw[dJ];have tG:∀w1:aY,bA w.heap.size w w1->w1.heap[w.heap.size]?=aE (aU #[aH aF 0,aH aF 0,aI ⟨#[]⟩] 101)->bH aQ 58 #[aK (aE ⟨rb,0,aC⟩),aI ⟨s.toArray⟩] w1 λe w' =>e=aM (bC #[bM #[aH aF c.kind,aH aF c.n,aI ⟨c.name.toArray⟩],bB aX])/\bA w.heap.size w w' /\w'.heap[w.heap.size]?=aE (aU #[aH aF 0,aH aF 0,aI ⟨#[]⟩] 101):=λw1 h1 h2=>by
  have:=Ar w1 rb vA vS vR bs m s (q.h.below h1);rw[zY] at this;exact this.mono λe w' hh=>⟨hh.1,lZ h1 hh.2,(hh.2.block w.heap.size (cC h2)).trans h2⟩
 have HM:=bE tG;clear tG q dJ zY hJ;unfold xZ;generalize(c.kind:Int)=ck at*;generalize c.n=cn at*;generalize c.name=cnm at*;go_enter func72,ntmps72;go_wp2_with fail
 refine(aN MI).mono ?_;rintro e w1 ⟨rfl,fF,xI⟩;have x0:w1.cell? ⟨xb,0,aC⟩=aE (aK (aE ⟨rb,0,aC⟩)):=aZ ((aN HQ).hl.below fF).c rfl;have Q5:=bE (bK fF xI);clear fF xI;go_wp2_with fail
 refine(aN HM w1 (aN Q5).1 (aN Q5).2).mono ?_;rintro e w2 ⟨rfl,eD,eP⟩;have uG:=bE (bK eD eP);have b0:=cq 0 eP rfl;have b1:=cq 1 eP rfl;have b2:=cq 2 eP rfl;have f0:=bG 0 eP;have f1:=bG 1 eP;have f2:=bG 2 eP;clear eD eP;have nsz:w.heap.size<w2.heap.size:=cC (aN uG).2;go_wp2;have eP:=(aN uG).2;have eR:=bV (bV (bV eP 0 (aH aF ck)) 1 (aH aF cn)) 2 (aI ⟨cnm.toArray⟩);have eR:=(bA.heap_alloc _ (aU #[aH aF ck,aH aF cn,aI ⟨cnm.toArray⟩] 101) w.heap.size (cC eR)).trans eR;have c0:=aZ (j:=0) eR rfl;have c1:=aZ (j:=1) eR rfl;have c2:=aZ (j:=2) eR rfl;refine bodyPost_ret (v:=bC #[bM #[aH aF ck,aH aF cn,aI ⟨cnm.toArray⟩],aH aF 0]) (by simp[results,results72,go_sem,c0,c1,c2]) rfl ⟨rfl,?_,?_⟩
 ·exact((Mv.dS (aN uG).1 _).m7 (bD _) _ _ _).alloc _
 ·intro _;have t8:=(aN uG).1;refine⟨?_,vO,?_⟩
  ·exact(((((aN HQ).hl.below t8).Bf eP).Bf (bV eP 0 _)).Bf (bV (bV eP 0 _) 1 _)).below ((bF _ _).alloc (bD _) _)
  ·exact(((((aN HQ).hf.below t8).Bf eP).Bf (bV eP 0 _)).Bf (bV (bV eP 0 _) 1 _)).below ((bF _ _).alloc (bD _) _)
theorem Ki {s:N.eE}(q:jf w rb xb fb B p vA vS vR vO vW bs m ws o)(hJ:L.fJ s=aV)(zY:N.iU m s=aC):qY w rb xb fb B vO vW m ws p o s:=by
 have MI:=bE (jg w hJ);have HQ:=bE q;unfold qY;have dJ:fQ m ws p o s=(2,⟨1,0,[]⟩,o,p):=by
  unfold fQ;rw[eJ hJ,zY]
 rw[dJ];have tG:∀w1:aY,bA w.heap.size w w1->w1.heap[w.heap.size]?=aE (aU #[aH aF 0,aH aF 0,aI ⟨#[]⟩] 101)->bH aQ 58 #[aK (aE ⟨rb,0,aC⟩),aI ⟨s.toArray⟩] w1 λe w' =>e=aM (bC #[bM #[aH aF 1,aH aF 0,aI ⟨#[]⟩],bB aV])/\bA w.heap.size w w' /\w'.heap[w.heap.size]?=aE (aU #[aH aF 0,aH aF 0,aI ⟨#[]⟩] 101):=λw1 h1 h2=>by
  have:=Ar w1 rb vA vS vR bs m s (q.h.below h1);rw[zY] at this;exact this.mono λe w' hh=>⟨hh.1,lZ h1 hh.2,(hh.2.block w.heap.size (cC h2)).trans h2⟩
 have HM:=bE tG;clear tG q dJ zY hJ;go_enter func72,ntmps72;go_wp2_with fail
 refine(aN MI).mono ?_;rintro e w1 ⟨rfl,fF,xI⟩;have x0:w1.cell? ⟨xb,0,aC⟩=aE (aK (aE ⟨rb,0,aC⟩)):=aZ ((aN HQ).hl.below fF).c rfl;have Q5:=bE (bK fF xI);clear fF xI;go_wp2_with fail
 refine(aN HM w1 (aN Q5).1 (aN Q5).2).mono ?_;rintro e w2 ⟨rfl,eD,eP⟩;have uG:=bE (bK eD eP);have b0:=cq 0 eP rfl;have b1:=cq 1 eP rfl;have b2:=cq 2 eP rfl;have f0:=bG 0 eP;have f1:=bG 1 eP;have f2:=bG 2 eP;clear eD eP;have nsz:w.heap.size<w2.heap.size:=cC (aN uG).2;go_wp2;have eP:=(aN uG).2;have eR:=bV (bV (bV eP 0 (aH aF 1)) 1 (aH aF 0)) 2 (aI ⟨#[]⟩);have eR:=(bA.heap_alloc _ (aU #[aH aF 1,aH aF 0,aI ⟨#[]⟩] 101) w.heap.size (cC eR)).trans eR;have c0:=aZ (j:=0) eR rfl;have c1:=aZ (j:=1) eR rfl;have c2:=aZ (j:=2) eR rfl;refine bodyPost_ret (v:=bC #[bM #[aH aF 1,aH aF 0,aI ⟨#[]⟩],aH aF 2]) (by simp[results,results72,go_sem,c0,c1,c2]) rfl ⟨rfl,?_,?_⟩
 ·exact((Mv.dS (aN uG).1 _).m7 (bD _) _ _ _).alloc _
 ·intro hz;exact absurd hz (by decide)
theorem Mz {s:N.eE}(q:jf w rb xb fb B p vA vS vR vO vW bs m ws o)(hJ:L.fJ s=aX)(zC:N.stands o s=aC):qY w rb xb fb B vO vW m ws p o s:=by
 have MI:=bE (jg w hJ);have HQ:=bE q;unfold qY;have dJ:fQ m ws p o s=(3,⟨0,0,[]⟩,o,p):=by
  unfold fQ;rw[dL (by rw[hJ];exact Bool.noConfusion),zC]
 rw[dJ];have HS:=bE (jh q hJ zC aV rfl);clear q dJ zC hJ;unfold xZ;go_enter func72,ntmps72;go_wp2_with fail
 refine(aN MI).mono ?_;rintro e w1 ⟨rfl,fF,xI⟩;have YQ:=bE (aN HS w1 fF xI);clear fF xI;go_wp2_with fail
 refine(aN YQ).mono ?_;rintro e w2 ⟨rfl,sZ,sY,rF,eP,jl⟩;have Cf:=jl;clear jl;have H2:=bE (bK sZ (bK sY (bK rF (bK eP Cf))));have b0:=cq 0 eP rfl;have b1:=cq 1 eP rfl;have b2:=cq 2 eP rfl;have f0:=bG 0 eP;have f1:=bG 1 eP;have f2:=bG 2 eP;clear sZ sY rF eP Cf;go_wp2;have eR:=bV (bV (bV (aN H2).2.2.2.1 0 (aH aF 0)) 1 (aH aF 0)) 2 (aI ⟨#[]⟩);have c0:=aZ (j:=0) eR rfl;have c1:=aZ (j:=1) eR rfl;have c2:=aZ (j:=2) eR rfl;refine bodyPost_ret (v:=bC #[bM #[aH aF 0,aH aF 0,aI ⟨#[]⟩],aH aF 3]) (by simp[results,results72,go_sem,c0,c1,c2]) rfl ⟨rfl,(aN H2).1.m7 (bD _) _ _ _,λhz=>absurd hz (by decide)⟩
theorem BH {s:N.eE}(q:jf w rb xb fb B p vA vS vR vO vW bs m ws o)(hJ:L.fJ s=aX)(o1:List N.eE)(zC:N.stands o s=aE o1)(La:(s==[39])=aV):qY w rb xb fb B vO vW m ws p o s:=by
 have MI:=bE (jg w hJ);have HQ:=bE q;unfold qY;have dJ:fQ m ws p o s=(0,⟨4,0,s⟩,o1,p):=by
  unfold fQ;rw[dL (by rw[hJ];exact Bool.noConfusion),zC];simp only;rw[dL (by rw[La];exact Bool.noConfusion)]
 rw[dJ];have HS:=bE (jh q hJ zC aX rfl);clear q dJ zC hJ;unfold xZ;go_enter func72,ntmps72;go_wp2_with fail
 refine(aN MI).mono ?_;rintro e w1 ⟨rfl,fF,xI⟩;have YQ:=bE (aN HS w1 fF xI);clear fF xI;go_wp2_with fail
 refine(aN YQ).mono ?_;rintro e w2 ⟨rfl,sZ,sY,rF,eP,jl⟩;have Cf:=jl o1 rfl;clear jl;have H2:=bE (bK sZ (bK sY (bK rF (bK eP Cf))));have b0:=cq 0 eP rfl;have b1:=cq 1 eP rfl;have b2:=cq 2 eP rfl;have f0:=bG 0 eP;have f1:=bG 1 eP;have f2:=bG 2 eP;clear sZ sY rF eP Cf;go_wp2;have eR:=bV (bV (bV (aN H2).2.2.2.1 0 (aH aF 4)) 1 (aH aF 0)) 2 (aI ⟨s.toArray⟩);have c0:=aZ (j:=0) eR rfl;have c1:=aZ (j:=1) eR rfl;have c2:=aZ (j:=2) eR rfl;refine bodyPost_ret (v:=bC #[bM #[aH aF 4,aH aF 0,aI ⟨s.toArray⟩],aH aF 0]) (by simp[results,results72,go_sem,c0,c1,c2]) rfl ⟨rfl,(aN H2).1.m7 (bD _) _ _ _,λ_=>?_⟩;obtain⟨sZ,sY,rF,eP,oJ,Cf⟩:=aN H2;exact⟨((sY.Bf eP).Bf (bV eP 0 _)).Bf (bV (bV eP 0 _) 1 _),oJ,((Cf.Bf eP).Bf (bV eP 0 _)).Bf (bV (bV eP 0 _) 1 _)⟩
theorem Ut {s:N.eE}(q:jf w rb xb fb B p vA vS vR vO vW bs m ws o)(hJ:L.fJ s=aX)(o1:List N.eE)(zC:N.stands o s=aE o1)(La:s=[39])(Wn:N.dB m ws[p]? aV≠0):qY w rb xb fb B vO vW m ws p o s:=by
 have MI:=bE (jg w hJ);have HQ:=bE q;unfold qY;have dJ:fQ m ws p o s=(N.dB m ws[p]? aV,⟨0,0,[]⟩,o1,p):=by
  unfold fQ;rw[dL (by rw[hJ];exact Bool.noConfusion),zC];simp only;rw[eJ (by rw[La];rfl),eJ Wn]
 rw[dJ];have HS:=bE (jh q hJ zC aX rfl);have hz:(N.dB m ws[p]? aV==0)=aV:=by rw[beq_eq_false_iff_ne];exact Wn
 have Her:=bE Wn;clear q dJ zC hJ Wn;subst La;unfold xZ;generalize hE:N.dB m ws[p]? aV=er at*;generalize hT:mK m ws[p]? aV=tx at*;have HT:=bE (bK hT hE);clear hT hE;go_enter func72,ntmps72;go_wp2_with fail
 refine(aN MI).mono ?_;rintro e w1 ⟨rfl,fF,xI⟩;have YQ:=bE (aN HS w1 fF xI);clear fF xI;go_wp2_with fail
 refine(aN YQ).mono ?_;rintro e w2 ⟨rfl,sZ,sY,rF,eP,jl⟩;have Cf:=jl o1 rfl;clear jl;have H2:=bE (bK sZ (bK sY (bK rF (bK eP Cf))));clear sZ sY rF eP Cf;obtain⟨Ns,Cf⟩:=(aN H2).2.2.2.2;have SC:=bE (ji (aN HQ) w2 Ns (aN H2).1 (aN H2).2.1 (aN H2).2.2.1 (aN H2).2.2.2.1 Cf (aN HT).1 (aN HT).2);clear Cf;go_wp2_with fail
 refine(aN SC).mono ?_;rintro e w3 ⟨rfl,Bz,N8,El,eP,q8⟩;have H3:=bE (bK Bz (bK N8 (bK El (bK eP q8))));have b0:=cq 0 eP rfl;have b1:=cq 1 eP rfl;have b2:=cq 2 eP rfl;have f0:=bG 0 eP;have f1:=bG 1 eP;have f2:=bG 2 eP;clear Bz N8 El eP q8;go_wp2;have eR:=bV (bV (bV (aN H3).2.2.2.1 0 (aH aF 0)) 1 (aH aF 0)) 2 (aI ⟨#[]⟩);have c0:=aZ (j:=0) eR rfl;have c1:=aZ (j:=1) eR rfl;have c2:=aZ (j:=2) eR rfl;refine bodyPost_ret (v:=bC #[bM #[aH aF 0,aH aF 0,aI ⟨#[]⟩],aH aF er]) (by simp[results,results72,go_sem,c0,c1,c2]) rfl ⟨rfl,(aN H3).1.m7 (bD _) _ _ _,λhz=>((aN Her) hz).elim⟩
theorem Oi {s:N.eE}(q:jf w rb xb fb B p vA vS vR vO vW bs m ws o)(hJ:L.fJ s=aX)(o1:List N.eE)(zC:N.stands o s=aE o1)(La:s=[39])(Wn:N.dB m ws[p]? aV=0)(hk:N.fP m ((ws[p]?).getD [])=aC):qY w rb xb fb B vO vW m ws p o s:=by
 have MI:=bE (jg w hJ);have HQ:=bE q;unfold qY;have dJ:fQ m ws p o s=(2,⟨0,0,[]⟩,o1,p):=by
  unfold fQ;rw[dL (by rw[hJ];exact Bool.noConfusion),zC];simp only;rw[eJ (by rw[La];rfl),dL (by simpa using Wn),hk]
 rw[dJ];have HS:=bE (jh q hJ zC aX rfl);have Tj:mK m ws[p]? aV=(ws[p]?).getD []:=eJ Wn;clear q dJ zC hJ;subst La;unfold xZ;generalize(ws[p]?).getD []=tx at*;have HT:=bE (bK Tj Wn);have Hk:=bE hk;clear Tj Wn hk;go_enter func72,ntmps72;go_wp2_with fail
 refine(aN MI).mono ?_;rintro e w1 ⟨rfl,fF,xI⟩;have YQ:=bE (aN HS w1 fF xI);clear fF xI;go_wp2_with fail
 refine(aN YQ).mono ?_;rintro e w2 ⟨rfl,sZ,sY,rF,eP,jl⟩;have Cf:=jl o1 rfl;clear jl;have H2:=bE (bK sZ (bK sY (bK rF (bK eP Cf))));clear sZ sY rF eP Cf;obtain⟨Ns,Cf⟩:=(aN H2).2.2.2.2;have SC:=bE (ji (aN HQ) w2 Ns (aN H2).1 (aN H2).2.1 (aN H2).2.2.1 (aN H2).2.2.2.1 Cf (aN HT).1 (aN HT).2);clear Cf;go_wp2_with fail
 refine(aN SC).mono ?_;rintro e w3 ⟨rfl,Bz,N8,El,eP,q8⟩;have H3:=bE (bK Bz (bK N8 (bK El (bK eP q8))));have x3:=cq 0 N8.c rfl;have b0:=cq 0 eP rfl;have b1:=cq 1 eP rfl;have b2:=cq 2 eP rfl;have f0:=bG 0 eP;have f1:=bG 1 eP;have f2:=bG 2 eP;clear Bz N8 El eP q8;go_wp2_with fail
 refine(jm (aN Hk) (aH aF (-1)) rfl w3 (aN H3).2.2.1).mono ?_;rintro e o8 ⟨rfl,mG⟩;subst o8;go_wp2;have eR:=bV (bV (bV (aN H3).2.2.2.1 0 (aH aF 0)) 1 (aH aF 0)) 2 (aI ⟨#[]⟩);have c0:=aZ (j:=0) eR rfl;have c1:=aZ (j:=1) eR rfl;have c2:=aZ (j:=2) eR rfl;refine bodyPost_ret (v:=bC #[bM #[aH aF 0,aH aF 0,aI ⟨#[]⟩],aH aF 2]) (by simp[results,results72,go_sem,c0,c1,c2]) rfl ⟨rfl,(aN H3).1.m7 (bD _) _ _ _,λhz=>absurd hz (by decide)⟩
theorem IR {s:N.eE}(q:jf w rb xb fb B p vA vS vR vO vW bs m ws o)(hJ:L.fJ s=aX)(o1:List N.eE)(zC:N.stands o s=aE o1)(La:s=[39])(Wn:N.dB m ws[p]? aV=0)(k:Nat)(hk:N.fP m ((ws[p]?).getD [])=aE k):qY w rb xb fb B vO vW m ws p o s:=by
 have MI:=bE (jg w hJ);have HQ:=bE q;unfold qY;have dJ:fQ m ws p o s=(0,⟨1,1000+(k:Int),[]⟩,o1,p+1):=by
  unfold fQ;rw[dL (by rw[hJ];exact Bool.noConfusion),zC];simp only;rw[eJ (by rw[La];rfl),dL (by simpa using Wn),hk]
 rw[dJ];have HS:=bE (jh q hJ zC aX rfl);have Tj:mK m ws[p]? aV=(ws[p]?).getD []:=eJ Wn;have Hd:=(vN hk).1;have hold:=q.h.qU;have k0:¬(k:Int)<0:=by omega
 have k2:=wi (1000+(k:Int));have UL:oQ p ws[p]?=p+1:=by
  cases hx:ws[p]? with
  |none=>
   rw[hx] at Wn;exact absurd Wn (by show(4:Int)≠0;decide)
  |some t=>rfl
 have HNa:=bE UL;clear q dJ zC hJ Hd hold UL;subst La;unfold xZ;generalize(ws[p]?).getD []=tx at*;have HT:=bE (bK Tj Wn);have Hk:=bE hk;clear Tj Wn hk;go_enter func72,ntmps72;go_wp2_with fail
 refine(aN MI).mono ?_;rintro e w1 ⟨rfl,fF,xI⟩;have YQ:=bE (aN HS w1 fF xI);clear fF xI;go_wp2_with fail
 refine(aN YQ).mono ?_;rintro e w2 ⟨rfl,sZ,sY,rF,eP,jl⟩;have Cf:=jl o1 rfl;clear jl;have H2:=bE (bK sZ (bK sY (bK rF (bK eP Cf))));clear sZ sY rF eP Cf;obtain⟨Ns,Cf⟩:=(aN H2).2.2.2.2;have SC:=bE (ji (aN HQ) w2 Ns (aN H2).1 (aN H2).2.1 (aN H2).2.2.1 (aN H2).2.2.2.1 Cf (aN HT).1 (aN HT).2);clear Cf;go_wp2_with fail
 refine(aN SC).mono ?_;rintro e w3 ⟨rfl,Bz,N8,El,eP,q8⟩;have H3:=bE (bK Bz (bK N8 (bK El (bK eP q8))));have x3:=cq 0 N8.c rfl;have b0:=cq 0 eP rfl;have b1:=cq 1 eP rfl;have b2:=cq 2 eP rfl;have f0:=bG 0 eP;have f1:=bG 1 eP;have f2:=bG 2 eP;clear Bz N8 El eP q8;go_wp2_with fail
 refine(jm (aN Hk) (aH aF k) rfl w3 (aN H3).2.2.1).mono ?_;rintro e o8 ⟨rfl,mG⟩;subst o8;go_wp2;have eR:=bV (bV (bV (aN H3).2.2.2.1 0 (aH aF 1)) 1 (aH aF (1000+(k:Int)))) 2 (aI ⟨#[]⟩);have c0:=aZ (j:=0) eR rfl;have c1:=aZ (j:=1) eR rfl;have c2:=aZ (j:=2) eR rfl;refine bodyPost_ret (v:=bC #[bM #[aH aF 1,aH aF (1000+(k:Int)),aI ⟨#[]⟩],aH aF 0]) (by simp[results,results72,go_sem,c0,c1,c2]) rfl ⟨rfl,(aN H3).1.m7 (bD _) _ _ _,λ_=>?_⟩;obtain⟨Bz,N8,El,eP,q8⟩:=aN H3;rw[aN HNa] at N8;exact⟨((N8.Bf eP).Bf (bV eP 0 _)).Bf (bV (bV eP 0 _) 1 _),Ns,((q8.Bf eP).Bf (bV eP 0 _)).Bf (bV (bV eP 0 _) 1 _)⟩
theorem IF (w:aY)(rb xb fb B p:Nat)(vA vS vR vO vW:aG)(bs:List aG)(m:N.cE)(ws o:List N.eE)(s:N.eE)(h:cH w rb vA vS vR bs m)(hl:eH w xb rb vW ws p)(hf:eZ w B fb vO o)(hW:∀k,vW.ownBlock=aE k->k<B)(Jf:o.length<=1000)(hBw:B<=w.heap.size):qY w rb xb fb B vO vW m ws p o s:=by
 have q:jf w rb xb fb B p vA vS vR vO vW bs m ws o:=⟨h,hl,hf,hW,Jf,hBw⟩
 cases hJ:L.fJ s with
 |false=>
  cases zY:N.iU m s with
  |none=>exact Ki q hJ zY
  |some c=>exact K4 q hJ c zY
 |true=>
  cases zC:N.stands o s with
  |none=>exact Mz q hJ zC
  |some o1=>
   cases La:(s==[39]) with
   |false=>exact BH q hJ o1 zC La
   |true=>
    have ht:s=[39]:=eq_of_beq La;by_cases Wn:N.dB m ws[p]? aV=0
    ·cases hk:N.fP m ((ws[p]?).getD []) with
     |none=>exact Oi q hJ o1 zC ht Wn hk
     |some k=>exact IR q hJ o1 zC ht Wn k hk
    ·exact Ut q hJ o1 zC ht Wn
theorem OE:∃i,(aQ).info? 101=aE i/\i.zero=aE (bM #[aH aF 0,aH aF 0,aI ⟨#[]⟩])/\i.size=3/\i.bytes=32:=nE (by kernel_rfl)
def qE (b4:Nat) (w:aY):Prop:=w.heap[b4]?=aE (aU #[aH aF 0,aH aF 0] 94)
def XF (P:aY->Prop) (mu:aY->Nat) (fU:Int->Int->aY->Prop) (rb xb b4 k B:Nat) (wr:aY) (q:Nat) (w2:aY) (ck cn:Int) (nm:List UInt8) (code:Int):Prop:=
 (code≠0/\∀W,Mv (λx=>x=b4) w2 W->fU code (q:Int) W)\/
 (code=0/\∃(gA nA cA nB cB:Nat) (aB:Option Addr),w2.cell? ⟨xb,0,aC⟩=aE (aK (aE ⟨rb,0,aC⟩))/\w2.cell? ⟨rb,0,aC⟩=aE (aJ (aE ⟨gA,0,aC⟩) nA cA)/\k<nA/\w2.cell? ⟨gA,k*6+3,aC⟩=aE (aJ aB nB cB)/\w2.frozen? ⟨gA,k*6+3,aC⟩=aV/\
  ((60<=nB/\∀W,Mv (λx=>x=b4) w2 W->fU 5 (q:Int) W)\/
   (nB<60/\B<=w2.heap.size/\∃xs,w2.ownsRow B 101 3 (aJ aB nB cB) nB xs/\aE xb≠(aJ aB nB cB).ownBlock/\aE rb≠(aJ aB nB cB).ownBlock/\aE gA≠(aJ aB nB cB).ownBlock/\aE w2.heap.size≠(aJ aB nB cB).ownBlock/\
    ∀(g3 iG:Nat) (w5:aY),((w2.alloc (aU #[aH aF ck,aH aF cn,aI ⟨nm.toArray⟩] 101)).alloc (aU #[aH aF ck,aH aF cn,aI ⟨nm.toArray⟩] 101)).grownBy w5 (aJ aB nB cB).ownBlock->w5.ownsRow B 101 3 (aJ (aE ⟨g3,0,aC⟩) (nB+1) iG) (nB+1) (xs++[aH aF ck,aH aF cn,aI ⟨nm.toArray⟩])->P (w5.setCell ⟨gA,k*6+3,aC⟩ (aJ (aE ⟨g3,0,aC⟩) (nB+1) iG))/\mu (w5.setCell ⟨gA,k*6+3,aC⟩ (aJ (aE ⟨g3,0,aC⟩) (nB+1) iG))<mu wr)))
def ii (P:aY->Prop) (mu:aY->Nat) (fU:Int->Int->aY->Prop) (rb xb fb b4 k B:Nat) (wr:aY) (q:Nat) (s:List UInt8):Prop:=
 (s=[59]/\b4≠xb/\∃(aO:Option Addr) (no cO:Nat),wr.cell? ⟨fb,0,aC⟩=aE (aJ aO no cO)/\((0<no/\∀W,Mv (λx=>x=b4) (wr.setCell ⟨xb,2,aC⟩ (aH aF ((q:Int)+1))) W->fU 3 (q:Int) W)\/(no=0/\∃(gA nA cA:Nat),wr.cell? ⟨xb,0,aC⟩=aE (aK (aE ⟨rb,0,aC⟩))/\wr.cell? ⟨rb,0,aC⟩=aE (aJ (aE ⟨gA,0,aC⟩) nA cA)/\k<nA/\wr.cell? ⟨gA,k*6+4,aC⟩=aE (bB aV)/\wr.frozen? ⟨gA,k*6+4,aC⟩=aV/\gA≠b4/\gA≠xb/\∀W,Mv (λx=>x=b4) ((wr.setCell ⟨xb,2,aC⟩ (aH aF ((q:Int)+1))).setCell ⟨gA,k*6+4,aC⟩ (bB aX)) W->fU 0 0 W)))\/
 ((s==[59])=aV/\bH aQ 72 #[aK (aE ⟨xb,0,aC⟩),aK (aE ⟨fb,0,aC⟩),aI ⟨s.toArray⟩] (wr.setCell ⟨xb,2,aC⟩ (aH aF ((q:Int)+1))).drew λe w2=>∃(ck cn:Int) (nm:List UInt8) (code:Int),e=aM (bC #[bM #[aH aF ck,aH aF cn,aI ⟨nm.toArray⟩],aH aF code])/\qE b4 w2/\XF P mu fU rb xb b4 k B wr q w2 ck cn nm code)
def ZY (P:aY->Prop) (mu:aY->Nat) (fU:Int->Int->aY->Prop) (rb xb fb b4 k B:Nat) (wr:aY):Prop:=
 ∃(q n cW:Nat) (aW:Option Addr),n<=500/\q<=600/\wr.cell? ⟨xb,1,aC⟩=aE (aJ aW n cW)/\wr.cell? ⟨xb,2,aC⟩=aE (aH aF q)/\wr.frozen? ⟨xb,2,aC⟩=aV/\qE b4 wr/\
  ((¬q<n/\∀W,Mv (λx=>x=b4) wr W->fU 3 ((n:Int)-1) W)\/
   (q<n/\∃(gW:Nat) (s:List UInt8),aW=aE ⟨gW,0,aC⟩/\wr.cell? ⟨gW,q,aC⟩=aE (aI ⟨s.toArray⟩)/\gW≠xb/\ii P mu fU rb xb fb b4 k B wr q s))
theorem pK (u0 u1:aG):Mv (λx=>x=b) w ((w.setCell ⟨b,0,aC⟩ u0).setCell ⟨b,1,aC⟩ u1):=(Mv.setCell (T:=λx=>x=b) (Mv.refl _ _) (p:=⟨b,0,aC⟩) (.inl rfl) u0).setCell (p:=⟨b,1,aC⟩) (.inl rfl) u1
theorem Xi (w:aY)(xb:Nat)(Mg :Int)(tx:List UInt8)(er:Int)(hz:(er==0)=aV)(fU:aY->Prop)(eO:bH aQ 71 #[aK (aE ⟨xb,0,aC⟩),bB aX] (w.alloc (aU #[aH aF 0,aH aF 0] 94)) λe w1=>e=aM (bC #[aI ⟨tx.toArray⟩,aH aF er])/\qE w.heap.size w1/\∀W,Mv (λx=>x=w.heap.size) w1 W->fU W):
 bH aQ 55 #[aK (aE ⟨xb,0,aC⟩),aH aF Mg] w λe w' =>e=aM (bM #[aH aF er,aH aF Mg])/\fU w' :=by
 have HN:=bE eO;clear eO;go_enter func55,ntmps55;go_wp2_with fail
 refine(aN HN).mono ?_;rintro e w1 ⟨rfl,dJ,hP⟩;have HP:=bE (bK dJ hP);have b0:=cq 0 dJ rfl;have b1:=cq 1 dJ rfl;have g0:=bG 0 dJ;have g1:=bG 1 dJ;clear dJ hP;go_wp2;have eR:=bV (bV (aN HP).1 0 (aH aF er)) 1 (aH aF Mg);have c0:=aZ (j:=0) eR rfl;have c1:=aZ (j:=1) eR rfl;exact bodyPost_ret (v:=bM #[aH aF er,aH aF Mg]) (by simp[results,results55,go_sem,c0,c1]) rfl ⟨rfl,(aN HP).2 _ (pK _ _)⟩
theorem Ur (w:aY)(rb xb:Nat)(Mg :Int)(tx:List UInt8)(nA cA B:Nat)(aA:Option Addr)(xs:List aG)(UA:nA+1<=1000000000000)(Q:aY->Prop)(P:Nat->aY->Prop)(mu:aY->Nat)(fU:Int->Int->aY->Prop)(eO:bH aQ 71 #[aK (aE ⟨xb,0,aC⟩),bB aX] (w.alloc (aU #[aH aF 0,aH aF 0] 94)) λe w1=>e=aM (bC #[aI ⟨tx.toArray⟩,aH aF 0])/\Q w1)(hQ:∀w1,Q w1->w1.cell? ⟨xb,0,aC⟩=aE (aK (aE ⟨rb,0,aC⟩))/\w1.cell? ⟨rb,0,aC⟩=aE (aJ aA nA cA)/\w1.frozen? ⟨rb,0,aC⟩=aV/\w1.ownsRow 0 98 6 (aJ aA nA cA) nA xs/\aE xb≠(aJ aA nA cA).ownBlock/\aE rb≠(aJ aA nA cA).ownBlock/\
  ∀(g3 iG:Nat) (w5:aY),(w1.alloc (aU #[aI ⟨tx.toArray⟩,aH aF 1,aH aF 0,aJ aC 0 0,bB aV,bB aV] 98)).grownBy w5 (aJ aA nA cA).ownBlock->w5.ownsRow 0 98 6 (aJ (aE ⟨g3,0,aC⟩) (nA+1) iG) (nA+1) (xs++[aI ⟨tx.toArray⟩,aH aF 1,aH aF 0,aJ aC 0 0,bB aV,bB aV])->((aJ aA nA cA).ownBlock=aE g3\/g3=(w1.alloc (aU #[aI ⟨tx.toArray⟩,aH aF 1,aH aF 0,aJ aC 0 0,bB aV,bB aV] 98)).heap.size)->P w5.heap.size ((w5.setCell ⟨rb,0,aC⟩ (aJ (aE ⟨g3,0,aC⟩) (nA+1) iG)).alloc (aU #[aJ aC 0 0] 143)))(H:Hid (∀fb wr,P fb wr->ZY (P fb) mu fU rb xb fb w.heap.size nA B wr)):
 bH aQ 55 #[aK (aE ⟨xb,0,aC⟩),aH aF Mg] w λe w' =>∃er wd,e=aM (bM #[aH aF er,aH aF wd])/\fU er wd w' :=by
 obtain⟨iE,hi,hz,hs,jP⟩:=Eg;obtain⟨iC,hiC,hzC,hsC,hbyC⟩:=OE;have HN:=bE eO;have HQ:=bE hQ;clear eO hQ;go_enter func55,ntmps55;go_wp2_with fail
 refine(aN HN).mono ?_;rintro e w1 ⟨rfl,hq⟩;obtain⟨s0,s1,sf,hO,ae,NI,hG⟩:=aN HQ w1 hq;have OS:=bE hO;have HG:=bE hG;clear hq hO hG HQ HN;go_wp2;refine uR 17 (λw' :aY=>w'.cell? ⟨xb,0,aC⟩=aE (aK (aE ⟨rb,0,aC⟩))/\w'.cell? ⟨rb,0,aC⟩=aE (aJ aA nA cA)) (by kernel_rfl) ⟨s0,s1⟩ (λhc hS=>?_);refine uA 0 (aK (aE ⟨xb,0,aC⟩)) hc hS λhc=>?_
 refine uA 1 (aK (aE ⟨xb,0,aC⟩)) hc hS λhc=>?_
 refine uA 2 (aK (aE ⟨xb,0,aC⟩)) hc hS λhc=>?_
 refine uA 3 (aK (aE ⟨rb,0,aC⟩)) hc hS λhc=>?_
 refine uA 4 (aK (aE ⟨xb,0,aC⟩)) hc hS λhc=>?_
 refine uA 5 (aK (aE ⟨xb,0,aC⟩)) hc hS λhc=>?_
 refine uA 6 (aK (aE ⟨xb,0,aC⟩)) hc hS λhc=>?_
 refine uA 7 (aK (aE ⟨rb,0,aC⟩)) hc hS λhc=>?_
 refine uA 8 (aK (aE ⟨rb,0,aC⟩)) hc hS λhc=>?_
 refine uA 9 (aK (aE ⟨rb,0,aC⟩)) hc hS λhc=>?_
 refine uA 10 (aJ aA nA cA) hc hS λhc=>?_
 refine uA 11 (aI ⟨tx.toArray⟩) hc hS λhc=>?_
 refine uA 12 (bM #[aI ⟨tx.toArray⟩,aH aF 1,aH aF 0,aJ aC 0 0,bB aV,bB aV]) hc hS λhc=>?_
 refine uO 13 (by kernel_rfl) rfl (λK' hK=>?_);go_simp;refine hK.out _ _ (by exact⟨bJ s0 _,bJ s1 _⟩) ?_;clear hK K';have hc:=hc.nx 13 (by kernel_rfl);refine uO 14 (by kernel_rfl) rfl (λK' hK=>?_);refine step_append_lies _ (by rfl) _ _ 75 (by rfl) 0 98 iE (bM #[aI ⟨#[]⟩,aH aF 0,aH aF 0,aJ aC 0 0,bB aV,bB aV]) 6 64 underlying75 hi hz hs jP rfl (by decide) (aJ aA nA cA) nA xs (by rfl) (by exact(aN OS).alloc _) ⟨w1.heap.size,0,aC⟩ 1 1 [aI ⟨tx.toArray⟩,aH aF 1,aH aF 0,aJ aC 0 0,bB aV,bB aV] (by rfl) rfl (aY.news_of_block (heap_alloc_new w1 _)) (λu hu=>by simp at hu;rcases hu with rfl|rfl|rfl|rfl|rfl|rfl <;> rfl) (by decide) (by unfold maxLen;omega) (by omega) (bZ _) _ rfl ?_;intro g3 iG w5 o3 mY t3 l3;have mY:(w1.alloc (aU #[aI ⟨tx.toArray⟩,aH aF 1,aH aF 0,aJ aC 0 0,bB aV,bB aV] 98)).grownBy w5 (aJ aA nA cA).ownBlock:=⟨mY.os,mY.tape,mY.output,mY.size,mY.block⟩
 have z5:=cY mY (bJ s1 _) (cY (bU _ _ aC) s1 sf (by simp)) NI;have y0:=mY.cell (bJ s0 _) ae;have y1:=mY.cell (bJ s1 _) NI;have G3:=bE (bK mY (bK o3 t3));clear mY o3 t3;refine hK.out _ _ (by exact⟨y0,y1⟩) ?_;clear hK K';have hc:=hc.nx 14 (by kernel_rfl);refine uA 15 (aK (aE ⟨rb,0,aC⟩)) hc (by exact⟨y0,y1⟩) λhc=>?_
 refine uA 16 (aK (aE ⟨rb,0,aC⟩)) hc (by exact⟨y0,y1⟩) λhc=>?_
 refine lA (by kernel_rfl) rfl (λK' hK=>?_);go_simp;refine hK.out _ _ ?_;clear hK K';refine wpAny_done (by kernel_rfl) ?_ _;go_wp2;have HP0:=bE (aN HG g3 iG w5 (aN G3).1 (aN G3).2.1 (aN G3).2.2);clear G3 HG OS s0 s1 sf ae NI y0 y1 z5
 go_loopw [9] (λ_ wr=>P w5.heap.size wr) (λ_ wr=>mu wr)
 case atStart=>exact aN HP0
 case round=>
  have hh:=aN H _ wr hrel;clear hrel HP0;generalize w5.heap.size=fb at*;obtain⟨q,n,cW,aW,hn,hq,c1,c2,f2,dJ,qI⟩:=hh;rcases qI with ⟨Og,mL⟩|⟨eQ,gW,s,rfl,cs,hgx,hword⟩
  ·have HP:=bE (bK dJ mL);have k1:¬((q:Int)<(n:Int)):=by omega
   have k2:=wi ((n:Int)-1);have b0:=cq 0 dJ rfl;have b1:=cq 1 dJ rfl;have g0:=bG 0 dJ;have g1:=bG 1 dJ;clear Og mL dJ hn hq;go_wp2;go_region_held3 (λw' =>w'.cell? ⟨xb,1,aC⟩=aE (aJ aW n cW)/\w'.cell? ⟨xb,2,aC⟩=aE (aH aF q)) (first|exact⟨c1,c2⟩|go_keep) (fail)
   go_wp2;have eR:=bV (bV ((aN HP).1) 0 (aH aF 3)) 1 (aH aF ((n:Int)-1));have c0:=aZ (j:=0) eR rfl;have c1:=aZ (j:=1) eR rfl;exact bodyPost_ret (v:=bM #[aH aF 3,aH aF ((n:Int)-1)]) (by simp[results,results55,go_sem,c0,c1]) rfl ⟨3,((n:Int)-1),rfl,(aN HP).2 _ (pK _ _).drew⟩
  ·have k1:(q:Int)<(n:Int):=by omega
   have k0:(0:Int)<=(q:Int):=by omega
   have k2:=wi ((q:Int)+1);clear eQ hn hq;rcases hword with ⟨rfl,hbx,aO,no,cO,d0,sR⟩|⟨hns,gQ⟩
   ·-- the end of the body
    have GV:qE w.heap.size (wr.setCell ⟨xb,2,aC⟩ (aH aF ((q:Int)+1))):=(dA hbx).trans dJ;rcases sR with ⟨hno,mL⟩|⟨rfl,gA,mA,cA2,x0,x1,hk,x3,x4,Hf,YI,mL⟩
    ·have HP:=bE (bK GV mL);have k3:(0:Int)<(no:Int):=by omega
     have b0:=cq 0 dJ rfl;have b1:=cq 1 dJ rfl;have g0:=bG 0 dJ;have g1:=bG 1 dJ;clear hno mL dJ GV;go_wp2;go_region_held3 (λw' =>w'.cell? ⟨xb,1,aC⟩=aE (aJ (aE ⟨gW,0,aC⟩) n cW)/\w'.cell? ⟨xb,2,aC⟩=aE (aH aF q)) (first|exact⟨c1,c2⟩|go_keep) (fail)
     go_wp2;have eR:=bV (bV ((aN HP).1) 0 (aH aF 3)) 1 (aH aF q);have c0:=aZ (j:=0) eR rfl;have c1:=aZ (j:=1) eR rfl;exact bodyPost_ret (v:=bM #[aH aF 3,aH aF q]) (by simp[results,results55,go_sem,c0,c1]) rfl ⟨3,(q:Int),rfl,(aN HP).2 _ (pK _ _).drew⟩
    ·have cz:qE w.heap.size ((wr.setCell ⟨xb,2,aC⟩ (aH aF ((q:Int)+1))).setCell ⟨gA,nA*6+4,aC⟩ (bB aX)):=(dA (Ne.symm Hf)).trans GV;have HP:=bE (bK cz mL);have k3:(nA:Int)<(mA:Int):=by omega
     have k4:(0:Int)<=(nA:Int):=by omega
     have b0:=cq 0 dJ rfl;have b1:=cq 1 dJ rfl;have g0:=bG 0 dJ;have g1:=bG 1 dJ;clear mL dJ GV cz hk;go_wp2;go_region_held3 (λw' =>w'.cell? ⟨xb,1,aC⟩=aE (aJ (aE ⟨gW,0,aC⟩) n cW)/\w'.cell? ⟨xb,2,aC⟩=aE (aH aF q)) (first|exact⟨c1,c2⟩|go_keep) (fail)
     go_wp2;have eR:=bV (bV ((aN HP).1) 0 (aH aF 0)) 1 (aH aF 0);have c0:=aZ (j:=0) eR rfl;have c1:=aZ (j:=1) eR rfl;exact bodyPost_ret (v:=bM #[aH aF 0,aH aF 0]) (by simp[results,results55,go_sem,c0,c1]) rfl ⟨0,0,rfl,(aN HP).2 _ (pK _ _).drew⟩
   ·have HC:=bE gQ;clear gQ dJ;go_wp2;go_region_held3 (λw' =>w'.cell? ⟨xb,1,aC⟩=aE (aJ (aE ⟨gW,0,aC⟩) n cW)/\w'.cell? ⟨xb,2,aC⟩=aE (aH aF q)) (first|exact⟨c1,c2⟩|go_keep) (fail)
    go_wp2_with fail
    refine(aN HC).mono ?_;rintro e w2 ⟨ck,cn,nm,code,rfl,dJ,hcel⟩;have nsz:w.heap.size<w2.heap.size:=cC dJ;have b0:=cq 0 dJ rfl;have b1:=cq 1 dJ rfl;have g0:=bG 0 dJ;have g1:=bG 1 dJ;rcases hcel with ⟨t7,mL⟩|⟨rfl,gA,mA,cA2,nB,cB,aB,x0,x1,hk,x3,x4,Vi⟩
    ·have hz' :(code==0)=aV:=by rw[beq_eq_false_iff_ne];exact t7
     have HP:=bE (bK dJ mL);clear t7 mL dJ c1 c2 f2 cs;go_wp2;have eR:=bV (bV ((aN HP).1) 0 (aH aF code)) 1 (aH aF q);have eR:=(bA.heap_alloc _ (aU #[aH aF ck,aH aF cn,aI ⟨nm.toArray⟩] 101) w.heap.size (cC eR)).trans eR;have c0:=aZ (j:=0) eR rfl;have c1:=aZ (j:=1) eR rfl;exact bodyPost_ret (v:=bM #[aH aF code,aH aF q]) (by simp[results,results55,go_sem,c0,c1]) rfl ⟨code,(q:Int),rfl,(aN HP).2 _ ((pK _ _).alloc _)⟩
    ·have k3:(nA:Int)<(mA:Int):=by omega
     have k4:(0:Int)<=(nA:Int):=by omega
     rcases Vi with ⟨YP,mL⟩|⟨YP,hBw,ys,hO,n1,n2,n3,n4,hG⟩
     ·have HP:=bE (bK dJ mL);have k5:(60:Int)<=(nB:Int):=by omega
      have v0:=eG x0;have v1:=eG x1;have v2:=eG x3;clear YP mL dJ c1 c2 f2 cs hk;go_wp2;have eR:=bV (bV ((aN HP).1) 0 (aH aF 5)) 1 (aH aF q);have eR:=(bA.heap_alloc _ (aU #[aH aF ck,aH aF cn,aI ⟨nm.toArray⟩] 101) w.heap.size (cC eR)).trans eR;have c0:=aZ (j:=0) eR rfl;have c1:=aZ (j:=1) eR rfl;exact bodyPost_ret (v:=bM #[aH aF 5,aH aF q]) (by simp[results,results55,go_sem,c0,c1]) rfl ⟨5,(q:Int),rfl,(aN HP).2 _ ((pK _ _).alloc _)⟩
     ·have k5:¬(nB:Int)≥60:=by omega
      have OB:=bE hO;have HBw:=bE hBw;have HG:=bE hG;have v0:=eG x0;have v1:=eG x1;have v2:=eG x3;have s0:=bJ x0 (aU #[aH aF ck,aH aF cn,aI ⟨nm.toArray⟩] 101);have s1:=bJ x1 (aU #[aH aF ck,aH aF cn,aI ⟨nm.toArray⟩] 101);have s2:=bJ x3 (aU #[aH aF ck,aH aF cn,aI ⟨nm.toArray⟩] 101);have Fx:(w2.alloc (aU #[aH aF ck,aH aF cn,aI ⟨nm.toArray⟩] 101)).heap[w2.heap.size]?=aE (aU #[aH aF ck,aH aF cn,aI ⟨nm.toArray⟩] 101):=heap_alloc_new w2 _;have s3:(w2.alloc (aU #[aH aF ck,aH aF cn,aI ⟨nm.toArray⟩] 101)).cell? ⟨w2.heap.size,0,aC⟩=aE (aH aF ck):=aZ Fx rfl;have s4:(w2.alloc (aU #[aH aF ck,aH aF cn,aI ⟨nm.toArray⟩] 101)).cell? ⟨w2.heap.size,1,aC⟩=aE (aH aF cn):=aZ Fx rfl;have s5:(w2.alloc (aU #[aH aF ck,aH aF cn,aI ⟨nm.toArray⟩] 101)).cell? ⟨w2.heap.size,2,aC⟩=aE (aI ⟨nm.toArray⟩):=aZ Fx rfl;have sf:(w2.alloc (aU #[aH aF ck,aH aF cn,aI ⟨nm.toArray⟩] 101)).frozen? ⟨gA,nA*6+3,aC⟩=aV:=cY (bU w2 _ aC) x3 x4 (by simp);clear hO hBw hG dJ c1 c2 f2 cs hk Fx b0 b1 g0 g1;go_wp2;refine uR 24 (λw' :aY=>w'.cell? ⟨xb,0,aC⟩=aE (aK (aE ⟨rb,0,aC⟩))/\w'.cell? ⟨rb,0,aC⟩=aE (aJ (aE ⟨gA,0,aC⟩) mA cA2)/\w'.cell? ⟨gA,nA*6+3,aC⟩=aE (aJ aB nB cB)/\w'.cell? ⟨w2.heap.size,0,aC⟩=aE (aH aF ck)/\w'.cell? ⟨w2.heap.size,1,aC⟩=aE (aH aF cn)/\w'.cell? ⟨w2.heap.size,2,aC⟩=aE (aI ⟨nm.toArray⟩)) (by kernel_rfl) ⟨s0,s1,s2,s3,s4,s5⟩ (λhc hS=>?_);refine uA 0 (aK (aE ⟨xb,0,aC⟩)) hc hS λhc=>?_
      refine uA 1 (aK (aE ⟨xb,0,aC⟩)) hc hS λhc=>?_
      refine uA 2 (aK (aE ⟨xb,0,aC⟩)) hc hS λhc=>?_
      refine uA 3 (aK (aE ⟨rb,0,aC⟩)) hc hS λhc=>?_
      refine uA 4 (aK (aE ⟨rb,0,aC⟩)) hc hS λhc=>?_
      refine uA 5 (aK (aE ⟨rb,0,aC⟩)) hc hS λhc=>?_
      refine uA 6 (aJ (aE ⟨gA,0,aC⟩) mA cA2) hc hS λhc=>?_
      refine uA 7 (aH aF nA) hc hS λhc=>?_
      refine uA 8 (aK (aE ⟨xb,0,aC⟩)) hc hS λhc=>?_
      refine uA 9 (aK (aE ⟨xb,0,aC⟩)) hc hS λhc=>?_
      refine uA 10 (aK (aE ⟨xb,0,aC⟩)) hc hS λhc=>?_
      refine uA 11 (aK (aE ⟨rb,0,aC⟩)) hc hS λhc=>?_
      refine uA 12 (aK (aE ⟨rb,0,aC⟩)) hc hS λhc=>?_
      refine uA 13 (aK (aE ⟨rb,0,aC⟩)) hc hS λhc=>?_
      refine uA 14 (aJ (aE ⟨gA,0,aC⟩) mA cA2) hc hS λhc=>?_
      refine uA 15 (aH aF nA) hc hS λhc=>?_
      refine uA 16 (aK (aE ⟨gA,nA*6,aC⟩)) hc hS λhc=>?_
      refine uA 17 (aK (aE ⟨gA,nA*6+3,aC⟩)) hc hS λhc=>?_
      refine uA 18 (aJ aB nB cB) hc hS λhc=>?_
      refine uA 19 (bM #[aH aF ck,aH aF cn,aI ⟨nm.toArray⟩]) hc hS λhc=>?_
      refine uO 20 (by kernel_rfl) rfl (λK' hK=>?_);go_simp;refine hK.out _ _ (by exact⟨bJ s0 _,bJ s1 _,bJ s2 _,bJ s3 _,bJ s4 _,bJ s5 _⟩) ?_;clear hK K';have hc:=hc.nx 20 (by kernel_rfl);refine uO 21 (by kernel_rfl) rfl (λK' hK=>?_);refine step_append_lies _ (by rfl) _ _ 96 (by rfl) B 101 iC (bM #[aH aF 0,aH aF 0,aI ⟨#[]⟩]) 3 32 underlying96 hiC hzC hsC hbyC rfl (by decide) (aJ aB nB cB) nB ys (by rfl) (by exact((aN OB).alloc _).alloc _) ⟨w2.heap.size+1,0,aC⟩ 1 1 [aH aF ck,aH aF cn,aI ⟨nm.toArray⟩] (by rfl) rfl (aY.news_of_block (lF w2 _ _)) (λu hu=>by simp at hu;rcases hu with rfl|rfl|rfl <;> rfl) (by decide) (by unfold maxLen;omega) (by omega) (by have:=aN HBw;simp;omega) _ rfl ?_;intro g3 iG w5 o3 mY t3 l3;have mY:((w2.alloc (aU #[aH aF ck,aH aF cn,aI ⟨nm.toArray⟩] 101)).alloc (aU #[aH aF ck,aH aF cn,aI ⟨nm.toArray⟩] 101)).grownBy w5 (aJ aB nB cB).ownBlock:=⟨mY.os,mY.tape,mY.output,mY.size,mY.block⟩
      have z5:=cY mY (bJ s2 _) (cY (bU _ _ aC) s2 sf (by simp)) n3;have y0:=mY.cell (bJ s0 _) n1;have y1:=mY.cell (bJ s1 _) n2;have y2:=mY.cell (bJ s2 _) n3;have y3:=mY.cell (bJ s3 _) n4;have y4:=mY.cell (bJ s4 _) n4;have y5:=mY.cell (bJ s5 _) n4;have G3:=bE (bK mY o3);clear mY o3 t3;refine hK.out _ _ (by exact⟨y0,y1,y2,y3,y4,y5⟩) ?_;clear hK K';have hc:=hc.nx 21 (by kernel_rfl);refine uA 22 (aK (aE ⟨gA,nA*6,aC⟩)) hc (by exact⟨y0,y1,y2,y3,y4,y5⟩) λhc=>?_
      refine uA 23 (aK (aE ⟨gA,nA*6+3,aC⟩)) hc (by exact⟨y0,y1,y2,y3,y4,y5⟩) λhc=>?_
      refine lA (by kernel_rfl) rfl (λK' hK=>?_);go_simp;refine hK.out _ _ ?_;clear hK K';refine wpAny_done (by kernel_rfl) ?_ _;go_wp2;exact aN HG g3 iG w5 (aN G3).1 (aN G3).2
end
theorem E4 (m m' :N.cE)(hm:∀name,N.fP m' name=N.fP m name)(ws:List N.eE)(p:Nat)(o:List N.eE)(s:N.eE):fQ m' ws p o s=fQ m ws p o s:=by
 have h1:N.iU m' s=N.iU m s:=by unfold N.iU;rw[hm]
 have h2:∀x,N.dB m' x aV=N.dB m x aV:=λx=>by
  unfold N.dB;simp
 unfold fQ;rw[h1,hm];simp only[h2]
theorem BI (m:N.cE)(ws:List N.eE)(f q:Nat)(o:List N.eE)(b:List N.Cell)(s:N.eE)(hs:ws[q]?=aE s)(jD:(s==[59])=aV):
 ((fQ m ws (q+1) o s).1≠0->(N.reads m ws (f+1) q o b).1=b/\(N.reads m ws (f+1) q o b).2.1=(fQ m ws (q+1) o s).1/\(N.reads m ws (f+1) q o b).2.2.1=q)/\
 ((fQ m ws (q+1) o s).1=0->60<=b.length->(N.reads m ws (f+1) q o b).1=b/\(N.reads m ws (f+1) q o b).2.1=5/\(N.reads m ws (f+1) q o b).2.2.1=q)/\
 ((fQ m ws (q+1) o s).1=0->¬60<=b.length->N.reads m ws (f+1) q o b=N.reads m ws f (fQ m ws (q+1) o s).2.2.2 (fQ m ws (q+1) o s).2.2.1 (b++[(fQ m ws (q+1) o s).2.1])):=by
 rw[N.reads];simp only[hs];rw[dL (by rw[jD];exact Bool.false_ne_true)];unfold fQ;by_cases hb:L.fJ s=aV
 ·rw[eJ hb,eJ hb];cases N.iU m s with
  |none=>exact⟨λ_=>⟨rfl,rfl,rfl⟩,λh=>(by cases h),λh=>(by cases h)⟩
  |some c=>
   simp only;exact⟨λh=>(h rfl).elim,λ_ h=>by rw[eJ h];exact⟨rfl,rfl,rfl⟩,λ_ h=>by rw[dL h]⟩
 ·rw[dL hb,dL hb];cases N.stands o s with
  |none=>exact⟨λ_=>⟨rfl,rfl,rfl⟩,λh=>(by cases h),λh=>(by cases h)⟩
  |some o1=>
   simp only;by_cases Jy:(s==[39])=aX
   ·rw[eJ Jy,eJ Jy];by_cases he:N.dB m ws[q+1]? aV≠0
    ·rw[eJ he,eJ he];exact⟨λ_=>⟨rfl,rfl,rfl⟩,λh=>(he h).elim,λh=>(he h).elim⟩
    ·rw[dL he,dL he];cases N.fP m ((ws[q+1]?).getD []) with
     |none=>exact⟨λ_=>⟨rfl,rfl,rfl⟩,λh=>(by cases h),λh=>(by cases h)⟩
     |some k=>
      simp only;exact⟨λh=>(h rfl).elim,λ_ h=>by rw[eJ h];exact⟨rfl,rfl,rfl⟩,λ_ h=>by rw[dL h]⟩
   ·rw[dL Jy,dL Jy];exact⟨λh=>(h rfl).elim,λ_ h=>by rw[eJ h];exact⟨rfl,rfl,rfl⟩,λ_ h=>by rw[dL h]⟩
variable {o:List N.eE}
theorem KE {of:List N.eE}{d:Option N.eE}{o1:List N.eE}(h:N.turns o of d=aE o1):o1.length<=o.length:=by
 unfold N.turns at h;cases hl:o.getLast? with
 |none=>rw[hl] at h;cases h
 |some t=>
  rw[hl] at h;simp only at h;have jD:o≠[]:=λe=>by rw[e] at hl;cases hl
  have sF:0<o.length:=List.length_pos_iff.2 jD
  split at h
  ·injection h with h;rw[<-h];cases d with
   |none=>simp
   |some x=>simp;omega
  ·cases h
theorem U8 {s:N.eE}{o1:List N.eE}(h:N.stands o s=aE o1):o1.length<=o.length+1:=by
 unfold N.stands at h
 repeat' split at h
 all_goals first
  |exact Nat.le_succ_of_le (KE h)
  |(injection h with h;rw[<-h];simp)
  |cases h
theorem Yr (m:N.cE)(ws:List N.eE)(p:Nat)(o:List N.eE)(s:N.eE):(fQ m ws p o s).2.2.1.length<=o.length+1:=by
 unfold fQ;by_cases hb:L.fJ s=aV
 ·rw[eJ hb];cases N.iU m s with
  |none=>exact Nat.le_succ _
  |some c=>exact Nat.le_succ _
 ·rw[dL hb];cases zC:N.stands o s with
  |none=>exact Nat.le_succ _
  |some o1=>
   have:=U8 zC;simp only
   split
   ·split
    ·exact this
    ·cases N.fP m ((ws[p]?).getD []) with
     |none=>exact this
     |some k=>exact this
   ·exact this
theorem K8 (m:N.cE)(ws:List N.eE)(p:Nat)(o:List N.eE)(s:N.eE)(hp:p<=ws.length):p<=(fQ m ws p o s).2.2.2/\(fQ m ws p o s).2.2.2<=ws.length:=by
 unfold fQ;by_cases hb:L.fJ s=aV
 ·rw[eJ hb];cases N.iU m s with
  |none=>exact⟨bD _,hp⟩
  |some c=>exact⟨bD _,hp⟩
 ·rw[dL hb];cases zC:N.stands o s with
  |none=>exact⟨bD _,hp⟩
  |some o1=>
   simp only
   split
   ·split
    ·exact⟨bD _,hp⟩
    ·rename_i he
     cases hk:N.fP m ((ws[p]?).getD []) with
     |none=>exact⟨bD _,hp⟩
     |some k=>
      refine⟨Nat.le_succ _,?_⟩;show p+1<=ws.length;rcases Nat.lt_or_ge p ws.length with hx|hx
      ·exact hx
      ·exfalso;apply he;rw[dZ hx];show(4:Int)≠0;decide
   ·exact⟨bD _,hp⟩
variable {w:aY}{rb g cap f:Nat}{vS vR v v' :aG}{bs:List aG}{m:N.cE}{all:List N.iM}
theorem cH.setLast {x:aG}{e e' :N.iM}(h:cH w rb (aJ (aE ⟨g,0,aC⟩) (all.length+1) cap) vS vR (bs++[v]) {m with all:=all++[e]})(hf:f<6)(eR:(jR e v).set f x=jR e' v')(hn:dQ e'.n)(Vi:e'.ended=aX->(w.setCell ⟨g,all.length*6+f,aC⟩ x).ownsRow 0 101 3 v' e'.body.length (kJ e'.body)/\e'.body.length<=60):
 cH (w.setCell ⟨g,all.length*6+f,aC⟩ x) rb (aJ (aE ⟨g,0,aC⟩) (all.length+1) cap) vS vR (bs++[v']) {m with all:=all++[e']}:=by
 have hlen:bs.length=all.length:=by
  have:(bs++[v]).length=(all++[e]).length:=h.len;simpa using this
 obtain⟨n1,n2,n3⟩:=h.pR;have Mc:rb≠g:=λx=>n1 (by rw[x];rfl)
 have gZ:∀k,k≠g->(w.setCell ⟨g,all.length*6+f,aC⟩ x).heap[k]?=w.heap[k]?:=λk hk=>bA.heap_setCell _ _ _ _ hk
 have fL:w.ownsRow 0 98 6 (aJ (aE ⟨g,0,aC⟩) (all.length+1) cap) (all.length+1) (jA all bs++jR e v):=by
  have:=h.row;have e1:({m with all:=all++[e]}:N.cE).all=all++[e]:=rfl;rw[e1,bN,uE _ _ _ _ hlen] at this;exact this
 rcases fL.2 with ⟨h0,_⟩|⟨g2,xO,cur,rE,eD,hg,hle,dm,hs,ht⟩
 ·cases h0
 have Vd:g2=g/\xO=cap:=by
  injection rE with a1 _ a3;injection a1 with a1;injection a1 with a1 _;exact⟨a1.symm,a3.symm⟩
 obtain⟨rfl,rfl⟩:=Vd;have Sm:∀{u:aG} {n:Nat} {xs:List aG} {k:Nat},w.ownsRow 0 3 1 u n xs->u.ownBlock=aE k->k≠g2:=λho hk e=>by
  obtain⟨_,h'⟩:=cZ ho hk;rw[e] at h';exact absurd (cM hg h') (by decide)
 have ED:∀k,tN w k->k≠g2:=λk ⟨cs,fr,hc⟩ e=>by
  rw[e] at hc;exact absurd (cM hg hc) (by decide)
 have nQ:=Ao all bs hlen;refine⟨(gZ rb Mc).trans h.mc,?_,by simp[hlen],?_,cK h.st λk e=>gZ k (Sm h.st e),cK h.rt λk e=>gZ k (Sm h.rt e),h.ap,h.sl,h.rl,h.ol,h.sp,by have:=h.qU;simpa using this,h.si,h.ri,?_⟩
 ·show aY.ownsRow _ 0 _ 6 _ (all++[e']).length (jA (all++[e']) (bs++[v']));rw[bN,uE _ _ _ _ hlen];refine⟨by rw[bN,nQ];simp[jR];omega,.inr ⟨g2,xO,_,rfl,eD,bV hg (all.length*6+f) x,hle,dm,by simpa using hs,?_⟩⟩;have ht:cur.toList.take ((all.length+1)*6)=jA all bs++jR e v:=ht;show(cur.setIfInBounds (all.length*6+f) x).toList.take ((all.length+1)*6)=_;rw[Array.toList_setIfInBounds,List.take_set,ht,List.set_append_right _ _ (by omega),nQ,Nat.add_sub_cancel_left,eR]
 ·intro j e2 v2 h1 h2 h3;have h1:(all++[e'])[j]?=aE e2:=h1;rcases N.hU h1 with hj|⟨hj,hx⟩
  ·have Q8:=(bI.1 hj).1;rw[bT (by omega)] at h2;obtain⟨h4,h5⟩:=h.Xa j e2 v2 (by show(all++[e])[j]?=_;rw[bT Q8];exact hj) (by rw[bT (by omega)];exact h2) h3;refine⟨cV h4 λk e=>?_,h5⟩;obtain⟨c2,hc⟩:=cJ h4 e;exact gZ k (ED k ⟨c2,_,hc⟩)
  ·subst hx;rw[hj,<-hlen,bP (bD _),Nat.sub_self] at h2;have:v' =v2:=by simpa using h2
   subst this;exact Vi h3
 ·intro y hy;rcases List.mem_append.1 hy with hy|hy
  ·exact h.ni y (List.mem_append_left _ hy)
  ·rw[dE] at hy;rw[hy];exact hn
variable {vA:aG}
theorem cH.last {e:N.iM}(h:cH w rb vA vS vR (bs++[v]) {m with all:=all++[e]}):∃g cap,vA=aJ (aE ⟨g,0,aC⟩) (all.length+1) cap/\w.cell? ⟨g,all.length*6+3,aC⟩=aE v/\w.cell? ⟨g,all.length*6+4,aC⟩=aE (bB e.ended)/\(∀f,w.frozen? ⟨g,f,aC⟩=aV)/\∃cs,w.heap[g]?=aE (aU cs 98):=by
 have hlen:bs.length=all.length:=by
  have:(bs++[v]).length=(all++[e]).length:=h.len;simpa using this
 obtain⟨g,cap,v2,h1,h2,_,_,_,_,q3,q4,_,fz⟩:=h.tA (j:=all.length) (e:=e) (by show(all++[e])[all.length]?=_;rw[bP (bD _),Nat.sub_self];rfl);have:v2=v:=by
  rw[<-hlen,bP (bD _),Nat.sub_self] at h2;have:v=v2:=by simpa using h2
  exact this.symm
 subst this;obtain⟨cs,hc⟩:=cJ h.row (k:=g) (by rw[h1];rfl);refine⟨g,cap,?_,q3,q4,fz,cs,hc⟩;rw[h1];show aJ _ (all++[e]).length _=_;rw[bN];rfl
def sK (rb xb:Nat) (vA vS vR vW:aG) (m:N.cE) (ws:List N.eE) (code:Int) (p:Nat) (w w' :aY):Prop:=
 ∃bs' pI pU xM,cH w' rb pI pU xM bs' m/\Mv (λk=>dV rb vA vS vR k\/k=xb) w w' /\dG w (dV rb vA vS vR) (dV rb pI pU xM)/\(code=0->eH w' xb rb vW ws p)
variable {w' :aY}{xb p:Nat}{vW:aG}{ws:List N.eE}
theorem mZ.d (h:mZ rb xb vA vS vR vW bs m ws p w w')(code:Int):sK rb xb vA vS vR vW m ws code p w w' :=by
 obtain⟨a,b,c,h1,h2,h3,h4⟩:=h;exact⟨bs,a,b,c,h1,h3,h4,λ_=>h2⟩
def Fl (w:aY) (xb:Nat):Nat:=match w.cell? ⟨xb,2,aC⟩ with|some (aH _ p)=>p.toNat|_=>0
theorem Hu (h:eH w xb rb vW ws p):Fl w xb=p:=by
 have:w.cell? ⟨xb,2,aC⟩=aE (aH aF p):=aZ h.c rfl;unfold Fl;rw[this];simp
variable {cs:Array aG}{fr:Nat×Nat}
theorem cH.Jb {b4:Nat}(h:cH w rb vA vS vR bs m)(hb:w.heap[b4]?=aE (aU cs 94 fr))(hm:Mv (λx=>x=b4) w w'):cH w' rb vA vS vR bs m:=
 h.kept (λk hk=>hm.block k (h.lt k hk) λe=>h.lK hb (by decide) (by decide) (by decide) (e▸hk)) λk hk=>hm.block k (fW hk) λe=>by
  obtain⟨_,_,hc⟩:=hk;rw[e] at hc;exact absurd (cM hb hc) (by decide)
theorem eH.Jb {b4:Nat}(h:eH w xb rb vW ws p)(hb:w.heap[b4]?=aE (aU cs 94 fr))(hm:Mv (λx=>x=b4) w w'):eH w' xb rb vW ws p:=by
 refine h.kept (hm.block xb (cC h.c) λe=>?_) λk hk=>hm.block k (h.l.lt k hk).2 λe=>?_
 ·rw[<-e] at hb;exact absurd (cM h.c hb) (by decide)
 ·obtain⟨_,h'⟩:=cZ h.l hk;rw[e] at h';exact absurd (cM h' hb) (by decide)
variable {B e z n:Nat}{xs:List aG}
theorem W9 (h:w.ownsRow B e z v n xs):w.ownsRow 0 e z v n xs:=by
 refine⟨h.1,?_⟩;rcases h.2 with h1|⟨g,cap,cur,h2,_,h3⟩
 ·exact .inl h1
 ·exact .inr ⟨g,cap,cur,h2,bZ _,h3⟩
structure ez (w:aY) (rb xb:Nat) (vA vS vR vW:aG) (bs:List aG) (m:N.cE) (ws:List N.eE) (nm:N.eE) (res:List N.Cell×Int×Nat×Nat) (fb:Nat) (wr:aY) (q f:Nat) (o:List N.eE) (b:List N.Cell) (pI vB vO:aG):Prop where
 ref:cH wr rb pI vS vR (bs++[vB]) {m with all:=m.all++[⟨nm,1,0,b,aV,aV⟩]}
 line:eH wr xb rb vW ws q
 form:eZ wr w.heap.size fb vO o
 row:wr.ownsRow w.heap.size 101 3 vB b.length (kJ b)
 mv:Mv (λk=>dV rb vA vS vR k\/k=xb) w wr
 fresh:dG w (dV rb vA vS vR) (dV rb pI vS vR)
 rs:qE w.heap.size wr
 qle:q<=ws.length
 fuel:ws.length-q<f
 reads:N.reads m ws f q o b=res
 small:b.length<=60
 vI:o.length<=q
variable {fb:Nat}{vO:aG}
theorem qE.GA {wr:aY}{b4:Nat}(h:qE b4 w)(hl:eH w xb rb vW ws p)(hf:eZ w B fb vO o)(hm:Mv (rW xb fb vO) w wr):qE b4 wr:=by
 refine(hm.block b4 (cC h) ?_).trans h;rintro(e|e|e)
 ·rw[<-e] at hl;exact absurd (cM hl.c h) (by decide)
 ·rw[<-e] at hf;exact absurd (cM hf.c h) (by decide)
 ·obtain⟨_,h'⟩:=cZ (tO hf.row) e;exact absurd (cM h' h) (by decide)
variable {w1 w2:aY}{T:Nat->Prop}
theorem wC {ML:aG}(hm:Mv (λk=>dV rb vA vS vR k\/k=xb) w w1)(h2:Mv T w1 w2)(hT:∀k,T k->dV rb ML vS vR k\/k=xb\/w.heap.size<=k)(hf:dG w (dV rb vA vS vR) (dV rb ML vS vR)):Mv (λk=>dV rb vA vS vR k\/k=xb) w w2:=by
 refine hm.trans (T' :=T) (λk hk=>?_) h2;rcases hT k hk with x|x|x
 ·rcases hf k x with y|y
  ·exact .inl (.inl y)
  ·exact .inr y
 ·exact .inl (.inr x)
 ·exact .inr x
theorem QE (w:aY)(rb xb:Nat)(vA vS vR vW:aG)(bs:List aG)(m:N.cE)(ws:List N.eE)(nm:N.eE)(res:List N.Cell×Int×Nat×Nat)(fb:Nat)(h0:cH w rb vA vS vR bs m)(VM:∀k,vW.ownBlock=aE k->k<w.heap.size)(jD:1<=ws.length)(wr:aY)(q f:Nat)(o:List N.eE)(b:List N.Cell)(pI vB vO:aG)(hI:ez w rb xb vA vS vR vW bs m ws nm res fb wr q f o b pI vB vO):
 ZY (λwr=>∃q f o b pI vB vO,ez w rb xb vA vS vR vW bs m ws nm res fb wr q f o b pI vB vO) (λwr=>1000-Fl wr xb) (λer wd w' =>er=res.2.1/\wd=(res.2.2.1:Int)/\sK rb xb vA vS vR vW {m with all:=m.all++[⟨nm,1,0,res.1,res.2.1==0,aV⟩]} ws res.2.1 res.2.2.2 w w') rb xb fb w.heap.size m.all.length w.heap.size wr:=by
 obtain⟨f',rfl⟩:∃f',f=f' +1:=⟨f-1,by have:=hI.fuel;omega⟩
 obtain⟨aW,cW,NJ,_,_⟩:=cU hI.line.l;have hbx:w.heap.size≠xb:=λe=>by
  have:=hI.rs;unfold qE at this;rw[e] at this;exact absurd (cM this hI.line.c) (by decide)
 -- what a failing word leaves
 have bad:∀(er:Int) (wd:Nat) (wX W:aY) (vX:aG),cH wX rb vX vS vR (bs++[vB]) {m with all:=m.all++[⟨nm,1,0,b,aV,aV⟩]}->qE w.heap.size wX->Mv (λk=>dV rb vA vS vR k\/k=xb) w wX->dG w (dV rb vA vS vR) (dV rb vX vS vR)->Mv (λx=>x=w.heap.size) wX W->er≠0->res.1=b->res.2.1=er->res.2.2.1=wd->(er=res.2.1/\(wd:Int)=(res.2.2.1:Int)/\sK rb xb vA vS vR vW {m with all:=m.all++[⟨nm,1,0,res.1,res.2.1==0,aV⟩]} ws res.2.1 res.2.2.2 w W):=by
  intro er wd wX W vX g1 g2 g3 g4 g5 hz e1 e2 e3;refine⟨e2.symm,by rw[e3],bs++[vB],vX,vS,vR,?_,?_,g4,λh=>(hz (e2▸h)).elim⟩
  ·rw[e1,e2,show(er==0)=aV from by rw[beq_eq_false_iff_ne];exact hz];exact g1.Jb g2 g5
  ·exact wC g3 g5 (λk hk=>.inr (.inr (by rw[hk];exact bD _))) g4
 refine⟨q,ws.length,cW,aW,hI.line.len,by have:=hI.qle;have:=hI.line.len;omega,by rw[<-NJ];exact aZ hI.line.c rfl,aZ hI.line.c rfl,bG 2 hI.line.c,hI.rs,?_⟩;have Bt:=hI.reads;by_cases hq:q<ws.length
 case neg=>
  refine .inl ⟨hq,λW hW=>?_⟩;rw[N.reads,dZ (by omega)] at Bt;have:=bad 3 (ws.length-1) wr W pI hI.ref hI.rs hI.mv hI.fresh hW (by decide) (by rw[<-Bt]) (by rw[<-Bt]) (by rw[<-Bt]);rw[show((ws.length-1:Nat):Int)=(ws.length:Int)-1 by omega] at this;exact this
 case pos=>
  obtain⟨s,hs⟩:∃s,ws[q]?=aE s:=⟨_,bL hq⟩
  obtain⟨gW,cW',En,cs,hgx⟩:=hI.line.word hs;rw[NJ] at En;have ha:=eM En;refine .inr ⟨hq,gW,s,ha,cs,hgx,?_⟩
  -- behind 'at++'
  have Tn:=hI.line.at (q+1) (aH aF ((q:Int)+1)) (by simp);have vG:=hI.ref.q7 (i:=2) (u:=aH aF ((q:Int)+1)) hI.line;have qV:Mv (λk=>k=xb) wr (wr.setCell ⟨xb,2,aC⟩ (aH aF ((q:Int)+1))):=Mv.setCell (T:=λk=>k=xb) (p:=⟨xb,2,aC⟩) (Mv.refl _ _) (.inl rfl) _;have u6:=hI.form.GG hI.line VM qV;have l6:Mv (λk=>dV rb vA vS vR k\/k=xb) w (wr.setCell ⟨xb,2,aC⟩ (aH aF ((q:Int)+1))):=wC hI.mv qV (λk hk=>.inr (.inl hk)) hI.fresh;have MP:qE w.heap.size (wr.setCell ⟨xb,2,aC⟩ (aH aF ((q:Int)+1))):=(dA hbx).trans hI.rs;have GH:(wr.setCell ⟨xb,2,aC⟩ (aH aF ((q:Int)+1))).ownsRow w.heap.size 101 3 vB b.length (kJ b):=cV hI.row λk e=>dA λx=>by
   obtain⟨_,h'⟩:=cJ hI.row e;rw[x] at h';exact absurd (cM hI.line.c h') (by decide)
  by_cases sR:(s==[59])=aX
  ·left
   have hs59:s=[59]:=eq_of_beq sR;obtain⟨aO,cO,hvO,_⟩:=hI.form.slice;refine⟨hs59,hbx,aO,o.length,cO,by rw[<-hvO];exact aZ hI.form.c rfl,?_⟩;rw[N.reads,hs] at Bt;simp only at Bt;rw[eJ sR] at Bt;cases ho:o with
   |cons t u=>
    left
    refine⟨by simp,λW hW=>?_⟩;rw[ho,dL (by simp)] at Bt;exact bad 3 q _ W pI vG MP l6 hI.fresh hW (by decide) (by rw[<-Bt]) (by rw[<-Bt]) (by rw[<-Bt])
   |nil=>
    right
    rw[ho,eJ (by rfl)] at Bt;obtain⟨gA,cA,UT,q3,q4,fz,csA,EI⟩:=hI.ref.last;have YI:gA≠xb:=λe=>by
     rw[e] at EI;exact absurd (cM EI hI.line.c) (by decide)
    have Hf:gA≠w.heap.size:=λe=>by
     rw[e] at EI;exact absurd (cM EI hI.rs) (by decide)
    refine⟨rfl,gA,m.all.length+1,cA,aZ hI.line.c rfl,by rw[<-UT];exact aZ hI.ref.mc rfl,Nat.lt_succ_self _,q4,fz _,Hf,YI,λW hW=>?_⟩;subst UT;have hgA1:(wr.setCell ⟨xb,2,aC⟩ (aH aF ((q:Int)+1))).heap[gA]?=aE (aU csA 98):=(dA YI).trans EI;have Fw:((wr.setCell ⟨xb,2,aC⟩ (aH aF ((q:Int)+1))).setCell ⟨gA,m.all.length*6+4,aC⟩ (bB aX)).ownsRow w.heap.size 101 3 vB b.length (kJ b):=cV GH λk e=>dA λx=>by
     obtain⟨_,h'⟩:=cJ GH e;rw[x] at h';exact absurd (cM hgA1 h') (by decide)
    have rF:=vG.setLast (f:=4) (x:=bB aX) (e' :=⟨nm,1,0,b,aX,aV⟩) (v' :=vB) (by omega) rfl (show dQ 0 from⟨by decide,by decide⟩) (λ_=>⟨W9 Fw,hI.small⟩);have sY:eH ((wr.setCell ⟨xb,2,aC⟩ (aH aF ((q:Int)+1))).setCell ⟨gA,m.all.length*6+4,aC⟩ (bB aX)) xb rb vW ws (q+1):=by
     refine Tn.kept (dA (Ne.symm YI)) λk e=>dA λx=>?_
     obtain⟨_,h'⟩:=cZ Tn.l e;rw[x] at h';exact absurd (cM hgA1 h') (by decide)
    have M8:qE w.heap.size ((wr.setCell ⟨xb,2,aC⟩ (aH aF ((q:Int)+1))).setCell ⟨gA,m.all.length*6+4,aC⟩ (bB aX)):=(dA (Ne.symm Hf)).trans MP;have sZ:Mv (λk=>k=gA) (wr.setCell ⟨xb,2,aC⟩ (aH aF ((q:Int)+1))) ((wr.setCell ⟨xb,2,aC⟩ (aH aF ((q:Int)+1))).setCell ⟨gA,m.all.length*6+4,aC⟩ (bB aX)):=Mv.setCell (T:=λk=>k=gA) (p:=⟨gA,m.all.length*6+4,aC⟩) (Mv.refl _ _) (.inl rfl) _;have Vk:=wC l6 sZ (λk hk=>.inl (.inr (.inl (by rw[hk];rfl)))) hI.fresh;have e1:res.1=b:=by rw[<-Bt]
    have e2:res.2.1=0:=by rw[<-Bt]
    have e3:res.2.2.1=0:=by rw[<-Bt]
    have e4:res.2.2.2=q+1:=by rw[<-Bt]
    refine⟨e2.symm,by rw[e3];rfl,bs++[vB],_,vS,vR,?_,wC Vk hW (λk hk=>.inr (.inr (by rw[hk];exact bD _))) hI.fresh,hI.fresh,λ_=>by rw[e4];exact sY.Jb M8 hW⟩;rw[e1,e2];exact rF.Jb M8 hW
  ·right
   have r6:(s==[59])=aV:=by simpa using sR
   refine⟨r6,?_⟩;have NM:bA (wr.setCell ⟨xb,2,aC⟩ (aH aF ((q:Int)+1))).heap.size (wr.setCell ⟨xb,2,aC⟩ (aH aF ((q:Int)+1))) (wr.setCell ⟨xb,2,aC⟩ (aH aF ((q:Int)+1))).drew:=(bF _ _).drew;have gK:=IF (wr.setCell ⟨xb,2,aC⟩ (aH aF ((q:Int)+1))).drew rb xb fb w.heap.size (q+1) pI vS vR vO vW (bs++[vB]) _ ws o s (vG.below NM) (Tn.below NM) (u6.below NM) VM (by have:=hI.vI;have:=hI.line.len;have:=hI.qle;omega) (by have:=l6.size;exact this);unfold qY at gK;have hms:∀name,N.fP {m with all:=m.all++[⟨nm,1,0,b,aV,aV⟩]} name=N.fP m name:=λname=>Fi m.all _ name rfl
   rw[E4 m _ hms] at gK;obtain⟨w1e,w60,wok⟩:=BI m ws f' q o b s hs r6;refine gK.mono λe w2 hh=>?_
   obtain⟨k1,k2,k3⟩:=hh;generalize Gr:fQ m ws (q+1) o s=R at*;obtain⟨code,c,o1,nx⟩:=R;simp only at k1 k2 k3 w1e w60 wok;have rF:=(vG.below NM).GA (Tn.below NM) (u6.below NM) k2;have M8:qE w.heap.size w2:=qE.GA (w:=(wr.setCell ⟨xb,2,aC⟩ (aH aF ((q:Int)+1))).drew) MP (Tn.below NM) (u6.below NM) k2;have hmw1d:Mv (λk=>dV rb vA vS vR k\/k=xb) w (wr.setCell ⟨xb,2,aC⟩ (aH aF ((q:Int)+1))).drew:=l6.drew;have Vk:=wC hmw1d k2 (λk hk=>by
    rcases hk with hk|hk|hk
    ·exact .inr (.inl hk)
    ·exact .inr (.inr (by rw[hk];exact hI.form.ge))
    ·exact .inr (.inr (qC hI.form.row hk))) hI.fresh
   have Fw:w2.ownsRow w.heap.size 101 3 vB b.length (kJ b):=cV (w:=(wr.setCell ⟨xb,2,aC⟩ (aH aF ((q:Int)+1))).drew) GH λk e=>by
    obtain⟨_,h'⟩:=cJ GH e;refine k2.block k (cC h') ?_;rintro(x|x|x)
    ·rw[x] at h';exact absurd (cM Tn.c h') (by decide)
    ·rw[x] at h';exact absurd (cM u6.c h') (by decide)
    ·obtain⟨_,TF⟩:=cZ (tO u6.row) x;exact absurd (cM TF h') (by decide)
   refine⟨(c.kind:Int),c.n,c.name,code,k1,M8,?_⟩;by_cases t7:code=0
   case neg=>
    left
    refine⟨t7,λW hW=>?_⟩;obtain⟨e1,e2,e3⟩:=w1e t7;rw[Bt] at e1 e2 e3;exact bad code q w2 W pI rF M8 Vk hI.fresh hW t7 e1 e2 e3
   case pos=>
    right
    obtain⟨sY,Ns,Cf⟩:=k3 t7;refine⟨t7,?_⟩;obtain⟨gA,cA,UT,q3,q4,fz,csA,EI⟩:=rF.last;obtain⟨aB,cB,hvB⟩:∃a c,vB=aJ a b.length c:=by
     rcases Fw.2 with ⟨h1,h2⟩|⟨_,_,_,h1,_⟩
     ·exact⟨aC,0,by rw[h1,h2]⟩
     ·exact⟨_,_,h1⟩
    refine⟨gA,m.all.length+1,cA,b.length,cB,aB,aZ sY.c rfl,by rw[<-UT];exact aZ rF.mc rfl,Nat.lt_succ_self _,by rw[<-hvB];exact q3,fz _,?_⟩;by_cases YP:60<=b.length
    ·left
     refine⟨YP,λW hW=>?_⟩;obtain⟨e1,e2,e3⟩:=w60 t7 YP;rw[Bt] at e1 e2 e3;exact bad 5 q w2 W pI rF M8 Vk hI.fresh hW (by decide) e1 e2 e3
    ·right
     have xF:=wok t7 YP;rw[Bt] at xF;have hBsz:w.heap.size<=w2.heap.size:=Vk.size;subst hvB;subst UT;have tyB:∀{k:Nat},(aJ aB b.length cB).ownBlock=aE k->∃cs,w2.heap[k]?=aE (aU cs 101):=λe=>cJ Fw e
     refine⟨by omega,hBsz,kJ b,Fw,λe=>?_,λe=>?_,λe=>?_,λe=>?_,?_⟩
     ·obtain⟨_,h'⟩:=tyB e.symm;exact absurd (cM sY.c h') (by decide)
     ·obtain⟨_,h'⟩:=tyB e.symm;exact absurd (cM rF.mc h') (by decide)
     ·obtain⟨_,h'⟩:=tyB e.symm;exact absurd (cM EI h') (by decide)
     ·have:=mC Fw e.symm;omega
     ·intro g3 iG w5 hg hO
      -- the world behind the append
      have Lz:bA w2.heap.size w2 ((w2.alloc (aU #[aH aF c.kind,aH aF c.n,aI ⟨c.name.toArray⟩] 101)).alloc (aU #[aH aF c.kind,aH aF c.n,aI ⟨c.name.toArray⟩] 101)):=((bF _ _).alloc (bD _) _).alloc (by simp) _;have hszA:=Lz.size;have xN:∀k,k<w2.heap.size->(aJ aB b.length cB).ownBlock≠aE k->w5.heap[k]?=w2.heap[k]?:=λk hk hn=>(hg.block k (by omega) (λe=>hn e.symm)).trans (Lz.block k hk)
      have hgA5:w5.heap[gA]?=aE (aU csA 98):=(xN gA (cC EI) λe=>by
       obtain⟨_,h'⟩:=tyB e;exact absurd (cM EI h') (by decide)).trans EI
      have SO:cH w5 rb (aJ (aE ⟨gA,0,aC⟩) (m.all.length+1) cA) vS vR (bs++[aJ aB b.length cB]) {m with all:=m.all++[⟨nm,1,0,b,aV,aV⟩]}:=by
       have kf:∀k,dV rb (aJ (aE ⟨gA,0,aC⟩) (m.all.length+1) cA) vS vR k->w5.heap[k]?=w2.heap[k]?:=λk hk=>xN k (rF.lt k hk) λe=>by
        obtain⟨YT,h'⟩:=tyB e;exact rF.sT ⟨YT,_,h'⟩ hk
       refine⟨(kf rb (.inl rfl)).trans rF.mc,cV rF.row λk e=>kf k (.inr (.inl e)),rF.len,λj e2 v2 g1 g2 g3=>?_,cK rF.st λk e=>kf k (.inr (.inr (.inl e))),cK rF.rt λk e=>kf k (.inr (.inr (.inr e))),rF.ap,rF.sl,rF.rl,rF.ol,rF.sp,rF.qU,rF.si,rF.ri,rF.ni⟩;obtain⟨g4,g5⟩:=rF.Xa j e2 v2 g1 g2 g3;refine⟨cV g4 λk e=>xN k (mC g4 e) λe' =>?_,g5⟩;have g1:(m.all++[⟨nm,1,0,b,aV,aV⟩])[j]?=aE e2:=g1;rcases N.hU g1 with hj|⟨_,hx⟩
       ·have Q8:=(bI.1 hj).1;rw[bT (by rw[h0.len];exact Q8)] at g2;have x1:=mC (h0.Xa j e2 v2 hj g2 g3).1 e;have x2:=qC Fw e';omega
       ·rw[hx] at g3;cases g3
      have eR:(jR ⟨nm,1,0,b,aV,aV⟩ (aJ aB b.length cB)).set 3 (aJ (aE ⟨g3,0,aC⟩) (b.length+1) iG)=jR ⟨nm,1,0,b++[c],aV,aV⟩ (aJ (aE ⟨g3,0,aC⟩) (b.length+1) iG):=rfl;have hr6:=SO.setLast (f:=3) (by omega) eR (show dQ 0 from⟨by decide,by decide⟩) (λh=>by cases h);have nT:∀{k:Nat} {YT :Array aG} {t:TypeId} {fr:Nat×Nat},w2.heap[k]?=aE (aU YT t fr)->t≠101->t≠98->(w5.setCell ⟨gA,m.all.length*6+3,aC⟩ (aJ (aE ⟨g3,0,aC⟩) (b.length+1) iG)).heap[k]?=w2.heap[k]?:=λhk h1 h2=>(dA λe=>by
       rw[e] at hk;exact h2 (cM hk EI)).trans (xN _ (cC hk) λe=>by
       obtain⟨_,h'⟩:=tyB e;exact h1 (cM hk h'))
      have hl6:eH (w5.setCell ⟨gA,m.all.length*6+3,aC⟩ (aJ (aE ⟨g3,0,aC⟩) (b.length+1) iG)) xb rb vW ws nx:=sY.kept (nT sY.c (by decide) (by decide)) λk e=>by
       obtain⟨_,h'⟩:=cZ sY.l e;exact nT h' (by decide) (by decide)
      have hnx:=K8 m ws (q+1) o s (by omega);rw[Gr] at hnx;simp only at hnx;have Jf:=Yr m ws (q+1) o s;rw[Gr] at Jf;simp only at Jf;refine⟨⟨nx,f',o1,b++[c],_,_,Ns,hr6,hl6,⟨(nT Cf.c (by decide) (by decide)).trans Cf.c,cK Cf.row λk e=>by
       obtain⟨_,h'⟩:=cZ (tO Cf.row) e;exact nT h' (by decide) (by decide),Cf.ge⟩,?_,?_,hI.fresh,(nT M8 (by decide) (by decide)).trans M8,hnx.2,by have:=hI.fuel;omega,xF.symm,by rw[bN];simp;omega,by have:=hI.vI;omega⟩,?_⟩
      ·rw[bN,Po];refine cV hO λk e=>dA λx=>?_
       obtain⟨_,h'⟩:=cJ hO e;rw[x] at h';exact absurd (cM hgA5 h') (by decide)
      ·have hmA:Mv (λk=>(aJ aB b.length cB).ownBlock=aE k) w2 w5:=Mv.grown (T:=λk=>(aJ aB b.length cB).ownBlock=aE k) (Mv.dS Lz _) hg λk e=>.inl e
       have hmB:=wC Vk hmA (λk hk=>.inr (.inr (qC Fw hk))) hI.fresh;exact wC hmB (Mv.setCell (T:=λk=>k=gA) (p:=⟨gA,m.all.length*6+3,aC⟩) (Mv.refl _ _) (.inl rfl) _) (λk hk=>.inl (.inr (.inl (by rw[hk];rfl)))) hI.fresh
      ·show 1000-Fl _ xb<1000-Fl wr xb;rw[Hu hl6,Hu hI.line];have:=hI.line.len;omega
theorem Zr (w:aY)(rb xb p:Nat)(vA vS vR:aG)(bs:List aG)(m:N.cE)(vW:aG)(ws:List N.eE)(h:cH w rb vA vS vR bs m)(hl:eH w xb rb vW ws (p+1))(hold:m.all.length+1<=1000000000000):
 bH aQ 55 #[aK (aE ⟨xb,0,aC⟩),aH aF p] w λe w' =>∃er wd:Int,e=aM (bM #[aH aF er,aH aF wd])/\er=(N.one m ws p Ng).2.1/\(er≠0->wd=((N.one m ws p Ng).2.2.1:Int))/\sK rb xb vA vS vR vW (N.one m ws p Ng).1 ws er (N.one m ws p Ng).2.2.2 w w' :=by
 have kO:bA w.heap.size w (w.alloc (aU #[aH aF 0,aH aF 0] 94)):=(bF _ _).alloc (bD _) _;have eO:=pH (w.alloc (aU #[aH aF 0,aH aF 0] 94)) rb xb (p+1) vA vS vR bs m vW ws aX (h.below kO) (hl.below kO);have hxlt:=cC hl.c;have Gr:∀w1,Mv (λk=>k=xb) (w.alloc (aU #[aH aF 0,aH aF 0] 94)) w1->qE w.heap.size w1:=λw1 hm=>(hm.block w.heap.size (by simp) (λe=>by omega)).trans (heap_alloc_new w _)
 have am:∀w1,Mv (λk=>k=xb) (w.alloc (aU #[aH aF 0,aH aF 0] 94)) w1->Mv (λk=>dV rb vA vS vR k\/k=xb) w w1:=λw1 hm=>(Mv.dS kO _).trans (dG.refl _ _) (hm.weaken λk hk=>.inr hk)
 rw[Ob];by_cases he:N.dB m ws[p+1]? aX≠0
 ·rw[eJ he];refine(Xi w xb (p:Int) (mK m ws[p+1]? aX) (N.dB m ws[p+1]? aX) (by rw[beq_eq_false_iff_ne];exact he) (λW=>sK rb xb vA vS vR vW m ws (N.dB m ws[p+1]? aX) (p+2) w W) (eO.mono λe w1 hh=>?_)).mono λe w' hh=>⟨_,_,hh.1,rfl,λ_=>rfl,hh.2⟩
  obtain⟨q1,q2,q3,q4⟩:=hh;refine⟨q1,Gr w1 q4,λW hW=>⟨bs,vA,vS,vR,q2.Jb (Gr w1 q4) hW,?_,dG.refl _ _,λh0=>(he h0).elim⟩⟩;exact wC (am w1 q4) hW (λk hk=>.inr (.inr (by rw[hk];exact bD _))) (dG.refl _ _)
 ·rw[dL he];have YS:N.dB m ws[p+1]? aX=0:=by simpa using he
  obtain⟨nm,Mh⟩:=rY YS;have hp2:=(bI.1 Mh).1;have Tj:mK m ws[p+1]? aX=nm:=by
   unfold mK;rw[eJ YS,Mh];rfl
  have UL:oQ (p+1) ws[p+1]?=p+2:=by rw[Mh];rfl
  rw[Tj,YS,UL] at eO;have MF:(ws[p+1]?).getD []=nm:=by rw[Mh];rfl
  rw[MF];generalize dJ:N.reads m ws (ws.length+1) (p+2) [] []=res;obtain⟨aA,cA,rE⟩:=h.slice;have hW0:∀k,vW.ownBlock=aE k->k<w.heap.size:=λk e=>(hl.l.lt k e).2
  refine(Ur w rb xb (p:Int) nm m.all.length cA w.heap.size aA (jA m.all bs) hold (λw1=>cH w1 rb vA vS vR bs m/\eH w1 xb rb vW ws (p+2)/\Mv (λk=>k=xb) (w.alloc (aU #[aH aF 0,aH aF 0] 94)) w1) (λfb wr=>∃q f o b pI vB vO,ez w rb xb vA vS vR vW bs m ws nm res fb wr q f o b pI vB vO) (λwr=>1000-Fl wr xb) (λer wd w' =>er=res.2.1/\wd=(res.2.2.1:Int)/\sK rb xb vA vS vR vW {m with all:=m.all++[⟨nm,1,0,res.1,res.2.1==0,aV⟩]} ws res.2.1 res.2.2.2 w w') eO ?_ (bE ?_)).mono ?_
  ·rintro w1 ⟨q2,q3,q4⟩;refine⟨aZ q3.c rfl,by rw[<-rE];exact aZ q2.mc rfl,bG 0 q2.mc,by rw[<-rE];exact q2.row,λe=>?_,λe=>?_,?_⟩
   ·rw[<-rE] at e;obtain⟨_,h'⟩:=cJ q2.row e.symm;exact absurd (cM q3.c h') (by decide)
   ·rw[<-rE] at e;exact q2.pR.1 e.symm
   ·intro g3 iG w5 hg hO kD;rw[<-rE] at hg kD;have hbE:bA w1.heap.size w1 (w1.alloc (aU #[aI ⟨nm.toArray⟩,aH aF 1,aH aF 0,aJ aC 0 0,bB aV,bB aV] 98)):=(bF _ _).alloc (bD _) _;obtain⟨hr,hm,hf⟩:=cH.FX (e:=⟨nm,1,0,[],aV,aV⟩) (v:=aJ aC 0 0) (v' :=aJ (aE ⟨g3,0,aC⟩) (m.all.length+1) iG) q2 hbE hg hO (by rcases kD with e|e;exact .inl e.symm;exact .inr (by rw[e];rfl)) hold (show dQ 0 from⟨by decide,by decide⟩) (λh=>by cases h);have hszs:(w5.setCell ⟨rb,0,aC⟩ (aJ (aE ⟨g3,0,aC⟩) (m.all.length+1) iG)).heap.size=w5.heap.size:=by simp[aY.setCell]
    have ZI:bA (w5.setCell ⟨rb,0,aC⟩ (aJ (aE ⟨g3,0,aC⟩) (m.all.length+1) iG)).heap.size (w5.setCell ⟨rb,0,aC⟩ (aJ (aE ⟨g3,0,aC⟩) (m.all.length+1) iG)) ((w5.setCell ⟨rb,0,aC⟩ (aJ (aE ⟨g3,0,aC⟩) (m.all.length+1) iG)).alloc (aU #[aJ aC 0 0] 143)):=(bF _ _).alloc (bD _) _;have l6:=am w1 q4;have hmw5:=wC l6 hm (λk hk=>.inl hk) (dG.refl _ _);have hrs5:qE w.heap.size (w5.setCell ⟨rb,0,aC⟩ (aJ (aE ⟨g3,0,aC⟩) (m.all.length+1) iG)):=(hm.block w.heap.size (cC (Gr w1 q4)) (q2.lK (Gr w1 q4) (by decide) (by decide) (by decide))).trans (Gr w1 q4);refine⟨p+2,ws.length+1,[],[],_,_,_,hr.below ZI,(q3.mv q2 hm).below ZI,⟨?_,⟨rfl,.inl ⟨rfl,rfl⟩⟩,?_⟩,⟨rfl,.inl ⟨rfl,rfl⟩⟩,hmw5.trans (dG.refl _ _) (Mv.dS ZI _),?_,(ZI.block w.heap.size (cC hrs5)).trans hrs5,hp2,by omega,dJ,by simp,bZ _⟩
    ·have:=heap_alloc_new (w5.setCell ⟨rb,0,aC⟩ (aJ (aE ⟨g3,0,aC⟩) (m.all.length+1) iG)) (aU #[aJ aC 0 0] 143);rw[hszs] at this;exact this
    ·have:=hmw5.size;omega
    ·intro k hk;rcases hf k hk with x|x
     ·exact .inl x
     ·right
      have:=l6.size;omega
  ·rintro fb wr ⟨q,f,o,b,pI,vB,vO,hI⟩;exact QE w rb xb vA vS vR vW bs m ws nm res fb h hW0 (by omega) wr q f o b pI vB vO hI
  ·rintro e w' ⟨er,wd,rfl,h1,h2,h3⟩;exact⟨er,wd,rfl,h1,λ_=>h2,by rw[h1];exact h3⟩
section
attribute [local go_sem ↓] Go.wp_at_zero Go.wp_at_succ
def ix (fU:Int->Int->aY->Prop) (rb xb b2 p:Nat) (s:List UInt8) (bo:Bool) (w1:aY):Prop:=
 (s=[58]/\bH aQ 55 #[aK (aE ⟨xb,0,aC⟩),aH aF p] w1 λe w' =>∃er wd:Int,e=aM (bM #[aH aF er,aH aF wd])/\qE b2 w' /\∀W,Mv (λx=>x=b2) w' W->fU er wd W)\/
 ((s=[118,97,114,105,97,98,108,101]\/s=[99,111,110,115,116,97,110,116]\/s=[109,97,114,107,101,114])/\bH aQ 56 #[aK (aE ⟨xb,0,aC⟩),aI ⟨s.toArray⟩] w1 λe w' =>∃er:Int,e=aM (aH aF er)/\qE b2 w' /\(∀W,Mv (λx=>x=b2) w' W->fU er (p:Int) W))\/
 ((s=[102,111,114,103,101,116]\/s=[39])/\bH aQ 57 #[aK (aE ⟨xb,0,aC⟩),aI ⟨s.toArray⟩] w1 λe w' =>∃er:Int,e=aM (aH aF er)/\qE b2 w' /\(∀W,Mv (λx=>x=b2) w' W->fU er (p:Int) W))\/
 (bo=aX/\(s==[58])=aV/\(s==[118,97,114,105,97,98,108,101])=aV/\(s==[99,111,110,115,116,97,110,116])=aV/\(s==[109,97,114,107,101,114])=aV/\(s==[102,111,114,103,101,116])=aV/\(s==[39])=aV/\qE b2 w1/\∀W,Mv (λx=>x=b2) w1 W->fU 3 (p:Int) W)\/
 (bo=aV/\(s==[58])=aV/\(s==[118,97,114,105,97,98,108,101])=aV/\(s==[99,111,110,115,116,97,110,116])=aV/\(s==[109,97,114,107,101,114])=aV/\(s==[102,111,114,103,101,116])=aV/\(s==[39])=aV/\w1.cell? ⟨xb,0,aC⟩=aE (aK (aE ⟨rb,0,aC⟩))/\bH aQ 58 #[aK (aE ⟨rb,0,aC⟩),aI ⟨s.toArray⟩] w1 λe w2=>∃(ck cn:Int) (nm:List UInt8) (ok:Bool),e=aM (bC #[bM #[aH aF ck,aH aF cn,aI ⟨nm.toArray⟩],bB ok])/\w2.cell? ⟨xb,0,aC⟩=aE (aK (aE ⟨rb,0,aC⟩))/\
  ((ok=aV/\qE b2 w2/\∀W,Mv (λx=>x=b2) w2 W->fU 2 (p:Int) W)\/
   (ok=aX/\ck=1/\bH aQ 59 #[aK (aE ⟨rb,0,aC⟩),aH aF cn] (w2.alloc (aU #[aH aF ck,aH aF cn,aI ⟨nm.toArray⟩] 101)).drew λe w' =>∃er:Int,e=aM (aH aF er)/\qE b2 w' /\(∀W,Mv (λx=>x=b2) w' W->fU er (p:Int) W)/\w'.cell? ⟨xb,0,aC⟩=aE (aK (aE ⟨rb,0,aC⟩))/\w'.cell? ⟨w2.heap.size,1,aC⟩=aE (aH aF cn))\/
   (ok=aX/\ck=2/\bH aQ 60 #[aK (aE ⟨rb,0,aC⟩),aH aF cn,aH aF 0] (w2.alloc (aU #[aH aF ck,aH aF cn,aI ⟨nm.toArray⟩] 101)).drew λe w' =>∃er:Int,e=aM (aH aF er)/\qE b2 w' /\(∀W,Mv (λx=>x=b2) w' W->fU er (p:Int) W)/\w'.cell? ⟨xb,0,aC⟩=aE (aK (aE ⟨rb,0,aC⟩))/\w'.cell? ⟨w2.heap.size,1,aC⟩=aE (aH aF cn))\/
   (ok=aX/\ck=3/\bH aQ 61 #[aK (aE ⟨rb,0,aC⟩),aI ⟨nm.toArray⟩,aH aF 0] (w2.alloc (aU #[aH aF ck,aH aF cn,aI ⟨nm.toArray⟩] 101)).drew λe w' =>∃er:Int,e=aM (aH aF er)/\qE b2 w' /\(∀W,Mv (λx=>x=b2) w' W->fU er (p:Int) W)/\w'.cell? ⟨xb,0,aC⟩=aE (aK (aE ⟨rb,0,aC⟩))/\w'.cell? ⟨w2.heap.size,2,aC⟩=aE (aI ⟨nm.toArray⟩))))
theorem LS (w:aY)(rb xb p n gW cW:Nat)(s:List UInt8)(bo:Bool)(fU:Int->Int->aY->Prop)(hp:p<n)(hn:n<=500)(c1:w.cell? ⟨xb,1,aC⟩=aE (aJ (aE ⟨gW,0,aC⟩) n cW))(c2:w.cell? ⟨xb,2,aC⟩=aE (aH aF p))(f2:w.frozen? ⟨xb,2,aC⟩=aV)(cs:w.cell? ⟨gW,p,aC⟩=aE (aI ⟨s.toArray⟩))(vK:bH aQ 54 #[aI ⟨s.toArray⟩] ((w.alloc (aU #[aH aF 0,aH aF 0] 94)).setCell ⟨xb,2,aC⟩ (aH aF ((p:Int)+1))).drew λe w1=>e=aM (bB bo)/\ix fU rb xb w.heap.size p s bo w1):
 bH aQ 48 #[aK (aE ⟨xb,0,aC⟩)] w λe w' =>∃er wd:Int,e=aM (bM #[aH aF er,aH aF wd])/\fU er wd w' :=by
 have k1:(p:Int)<(n:Int):=by omega
 have k0:(0:Int)<=(p:Int):=by omega
 have k2:=wi ((p:Int)+1);have d1:=bJ c1 (aU #[aH aF 0,aH aF 0] 94);have d2:=bJ c2 (aU #[aH aF 0,aH aF 0] 94);have ds:=bJ cs (aU #[aH aF 0,aH aF 0] 94);have df:(w.alloc (aU #[aH aF 0,aH aF 0] 94)).frozen? ⟨xb,2,aC⟩=aV:=cY (bU w _ aC) c2 f2 (by simp);have HB:=bE vK;clear vK hp hn c1 c2 cs f2;go_enter func48,ntmps48;go_wp2;go_region_held3 (λw' =>w'.cell? ⟨xb,1,aC⟩=aE (aJ (aE ⟨gW,0,aC⟩) n cW)/\w'.cell? ⟨xb,2,aC⟩=aE (aH aF p)/\w'.cell? ⟨gW,p,aC⟩=aE (aI ⟨s.toArray⟩)) (first|exact⟨d1,d2,ds⟩|go_keep) (fail)
 go_wp2_with fail
 refine(aN HB).mono ?_;rintro e w1 ⟨rfl,ZH⟩;clear d1 d2 ds df HB;rcases ZH with ⟨rfl,hc⟩|⟨hs,hc⟩|⟨hs,hc⟩|⟨rfl,e1,e2,e3,e4,e5,e6,dJ,hP⟩|⟨rfl,e1,e2,e3,e4,e5,e6,x0,hc⟩
 ·have HC:=bE hc;clear hc;go_wp2_with fail
  refine(aN HC).mono ?_;rintro e w2 ⟨er,wd,rfl,dJ,hP⟩;have HP:=bE (bK dJ hP);have b0:=cq 0 dJ rfl;have b1:=cq 1 dJ rfl;have g0:=bG 0 dJ;have g1:=bG 1 dJ;clear dJ hP;go_wp2;have eR:=bV (bV ((aN HP).1) 0 (aH aF er)) 1 (aH aF wd);have c0:=aZ (j:=0) eR rfl;have c1:=aZ (j:=1) eR rfl;exact bodyPost_ret (v:=bM #[aH aF er,aH aF wd]) (by simp[results,results48,go_sem,c0,c1]) rfl ⟨er,wd,rfl,(aN HP).2 _ (pK _ _)⟩
 ·rcases hs with rfl|rfl|rfl
  ·have HC:=bE hc;clear hc;go_wp2_with fail
   refine(aN HC).mono ?_;rintro e w2 ⟨er,rfl,dJ,hP⟩;have HP:=bE (bK dJ hP);have b0:=cq 0 dJ rfl;have b1:=cq 1 dJ rfl;have g0:=bG 0 dJ;have g1:=bG 1 dJ;clear dJ hP;go_wp2;have eR:=bV (bV ((aN HP).1) 0 (aH aF er)) 1 (aH aF p);have c0:=aZ (j:=0) eR rfl;have c1:=aZ (j:=1) eR rfl;exact bodyPost_ret (v:=bM #[aH aF er,aH aF p]) (by simp[results,results48,go_sem,c0,c1]) rfl ⟨er,(p:Int),rfl,(aN HP).2 _ (pK _ _)⟩
  ·have HC:=bE hc;clear hc;go_wp2_with fail
   refine(aN HC).mono ?_;rintro e w2 ⟨er,rfl,dJ,hP⟩;have HP:=bE (bK dJ hP);have b0:=cq 0 dJ rfl;have b1:=cq 1 dJ rfl;have g0:=bG 0 dJ;have g1:=bG 1 dJ;clear dJ hP;go_wp2;have eR:=bV (bV ((aN HP).1) 0 (aH aF er)) 1 (aH aF p);have c0:=aZ (j:=0) eR rfl;have c1:=aZ (j:=1) eR rfl;exact bodyPost_ret (v:=bM #[aH aF er,aH aF p]) (by simp[results,results48,go_sem,c0,c1]) rfl ⟨er,(p:Int),rfl,(aN HP).2 _ (pK _ _)⟩
  ·have HC:=bE hc;clear hc;go_wp2_with fail
   refine(aN HC).mono ?_;rintro e w2 ⟨er,rfl,dJ,hP⟩;have HP:=bE (bK dJ hP);have b0:=cq 0 dJ rfl;have b1:=cq 1 dJ rfl;have g0:=bG 0 dJ;have g1:=bG 1 dJ;clear dJ hP;go_wp2;have eR:=bV (bV ((aN HP).1) 0 (aH aF er)) 1 (aH aF p);have c0:=aZ (j:=0) eR rfl;have c1:=aZ (j:=1) eR rfl;exact bodyPost_ret (v:=bM #[aH aF er,aH aF p]) (by simp[results,results48,go_sem,c0,c1]) rfl ⟨er,(p:Int),rfl,(aN HP).2 _ (pK _ _)⟩
 ·rcases hs with rfl|rfl
  ·have HC:=bE hc;clear hc;go_wp2_with fail
   refine(aN HC).mono ?_;rintro e w2 ⟨er,rfl,dJ,hP⟩;have HP:=bE (bK dJ hP);have b0:=cq 0 dJ rfl;have b1:=cq 1 dJ rfl;have g0:=bG 0 dJ;have g1:=bG 1 dJ;clear dJ hP;go_wp2;have eR:=bV (bV ((aN HP).1) 0 (aH aF er)) 1 (aH aF p);have c0:=aZ (j:=0) eR rfl;have c1:=aZ (j:=1) eR rfl;exact bodyPost_ret (v:=bM #[aH aF er,aH aF p]) (by simp[results,results48,go_sem,c0,c1]) rfl ⟨er,(p:Int),rfl,(aN HP).2 _ (pK _ _)⟩
  ·have HC:=bE hc;clear hc;go_wp2_with fail
   refine(aN HC).mono ?_;rintro e w2 ⟨er,rfl,dJ,hP⟩;have HP:=bE (bK dJ hP);have b0:=cq 0 dJ rfl;have b1:=cq 1 dJ rfl;have g0:=bG 0 dJ;have g1:=bG 1 dJ;clear dJ hP;go_wp2;have eR:=bV (bV ((aN HP).1) 0 (aH aF er)) 1 (aH aF p);have c0:=aZ (j:=0) eR rfl;have c1:=aZ (j:=1) eR rfl;exact bodyPost_ret (v:=bM #[aH aF er,aH aF p]) (by simp[results,results48,go_sem,c0,c1]) rfl ⟨er,(p:Int),rfl,(aN HP).2 _ (pK _ _)⟩
 ·have HP:=bE (bK dJ hP);have b0:=cq 0 dJ rfl;have b1:=cq 1 dJ rfl;have g0:=bG 0 dJ;have g1:=bG 1 dJ;clear dJ hP;go_wp2;have eR:=bV (bV ((aN HP).1) 0 (aH aF 3)) 1 (aH aF p);have c0:=aZ (j:=0) eR rfl;have c1:=aZ (j:=1) eR rfl;exact bodyPost_ret (v:=bM #[aH aF 3,aH aF p]) (by simp[results,results48,go_sem,c0,c1]) rfl ⟨3,(p:Int),rfl,(aN HP).2 _ (pK _ _)⟩
 ·have HC:=bE hc;clear hc;go_wp2_with fail
  refine(aN HC).mono ?_;rintro e w2 ⟨ck,cn,nm,ok,rfl,y0,qI⟩;rcases qI with ⟨rfl,dJ,hP⟩|⟨rfl,rfl,hc⟩|⟨rfl,rfl,hc⟩|⟨rfl,rfl,hc⟩
  ·have HP:=bE (bK dJ hP);have nsz:w.heap.size<w2.heap.size:=cC dJ;have b0:=cq 0 dJ rfl;have b1:=cq 1 dJ rfl;have g0:=bG 0 dJ;have g1:=bG 1 dJ;clear dJ hP;go_wp2;have eR:=bV (bV ((aN HP).1) 0 (aH aF 2)) 1 (aH aF p);have eR:=(bA.heap_alloc _ (aU #[aH aF ck,aH aF cn,aI ⟨nm.toArray⟩] 101) w.heap.size (cC eR)).trans eR;have c0:=aZ (j:=0) eR rfl;have c1:=aZ (j:=1) eR rfl;exact bodyPost_ret (v:=bM #[aH aF 2,aH aF p]) (by simp[results,results48,go_sem,c0,c1]) rfl ⟨2,(p:Int),rfl,(aN HP).2 _ ((pK _ _).alloc _)⟩
  ·have HC2:=bE hc;have z0:=bJ y0 (aU #[aH aF 1,aH aF cn,aI ⟨nm.toArray⟩] 101);have z1:(w2.alloc (aU #[aH aF 1,aH aF cn,aI ⟨nm.toArray⟩] 101)).cell? ⟨w2.heap.size,1,aC⟩=aE (aH aF cn):=aZ (heap_alloc_new w2 _) rfl;clear hc;go_wp2;go_region_held3 (λw' =>w'.cell? ⟨xb,0,aC⟩=aE (aK (aE ⟨rb,0,aC⟩))/\w'.cell? ⟨w2.heap.size,1,aC⟩=aE (aH aF cn)) (first|exact⟨t0,t1⟩|exact⟨z0,z1⟩|go_keep)
    ((go_simp;refine(aN HC2).mono ?_
      rintro e w3 ⟨er,rfl,dJ,hP,t0,t1⟩))
   have HP:=bE (bK dJ hP);have b0:=cq 0 dJ rfl;have b1:=cq 1 dJ rfl;have g0:=bG 0 dJ;have g1:=bG 1 dJ;clear dJ hP;go_wp2;have eR:=bV (bV ((aN HP).1) 0 (aH aF er)) 1 (aH aF p);have c0:=aZ (j:=0) eR rfl;have c1:=aZ (j:=1) eR rfl;exact bodyPost_ret (v:=bM #[aH aF er,aH aF p]) (by simp[results,results48,go_sem,c0,c1]) rfl ⟨er,(p:Int),rfl,(aN HP).2 _ (pK _ _)⟩
  ·have HC2:=bE hc;have z0:=bJ y0 (aU #[aH aF 2,aH aF cn,aI ⟨nm.toArray⟩] 101);have z1:(w2.alloc (aU #[aH aF 2,aH aF cn,aI ⟨nm.toArray⟩] 101)).cell? ⟨w2.heap.size,1,aC⟩=aE (aH aF cn):=aZ (heap_alloc_new w2 _) rfl;clear hc;go_wp2;go_region_held3 (λw' =>w'.cell? ⟨xb,0,aC⟩=aE (aK (aE ⟨rb,0,aC⟩))/\w'.cell? ⟨w2.heap.size,1,aC⟩=aE (aH aF cn)) (first|exact⟨t0,t1⟩|exact⟨z0,z1⟩|go_keep)
    ((go_simp;refine(aN HC2).mono ?_
      rintro e w3 ⟨er,rfl,dJ,hP,t0,t1⟩))
   have HP:=bE (bK dJ hP);have b0:=cq 0 dJ rfl;have b1:=cq 1 dJ rfl;have g0:=bG 0 dJ;have g1:=bG 1 dJ;clear dJ hP;go_wp2;have eR:=bV (bV ((aN HP).1) 0 (aH aF er)) 1 (aH aF p);have c0:=aZ (j:=0) eR rfl;have c1:=aZ (j:=1) eR rfl;exact bodyPost_ret (v:=bM #[aH aF er,aH aF p]) (by simp[results,results48,go_sem,c0,c1]) rfl ⟨er,(p:Int),rfl,(aN HP).2 _ (pK _ _)⟩
  ·have HC2:=bE hc;have z0:=bJ y0 (aU #[aH aF 3,aH aF cn,aI ⟨nm.toArray⟩] 101);have z1:(w2.alloc (aU #[aH aF 3,aH aF cn,aI ⟨nm.toArray⟩] 101)).cell? ⟨w2.heap.size,2,aC⟩=aE (aI ⟨nm.toArray⟩):=aZ (heap_alloc_new w2 _) rfl;clear hc;go_wp2;go_region_held3 (λw' =>w'.cell? ⟨xb,0,aC⟩=aE (aK (aE ⟨rb,0,aC⟩))/\w'.cell? ⟨w2.heap.size,2,aC⟩=aE (aI ⟨nm.toArray⟩)) (first|exact⟨t0,t1⟩|exact⟨z0,z1⟩|go_keep)
    ((go_simp;refine(aN HC2).mono ?_
      rintro e w3 ⟨er,rfl,dJ,hP,t0,t1⟩))
   have HP:=bE (bK dJ hP);have b0:=cq 0 dJ rfl;have b1:=cq 1 dJ rfl;have g0:=bG 0 dJ;have g1:=bG 1 dJ;clear dJ hP;go_wp2;have eR:=bV (bV ((aN HP).1) 0 (aH aF er)) 1 (aH aF p);have c0:=aZ (j:=0) eR rfl;have c1:=aZ (j:=1) eR rfl;exact bodyPost_ret (v:=bM #[aH aF er,aH aF p]) (by simp[results,results48,go_sem,c0,c1]) rfl ⟨er,(p:Int),rfl,(aN HP).2 _ (pK _ _)⟩
end
variable {code:Int}
theorem sK.after (hm:Mv (λk=>dV rb vA vS vR k\/k=xb) w w1)(h:sK rb xb vA vS vR vW m ws code p w1 w2):sK rb xb vA vS vR vW m ws code p w w2:=by
 obtain⟨bs',a,b,c,h1,h2,h3,h4⟩:=h;exact⟨bs',a,b,c,h1,hm.trans (dG.refl _ _) h2,(dG.refl _ _).trans hm.size h3,h4⟩
variable {W:aY}
theorem sK.res {b2:Nat}(h:sK rb xb vA vS vR vW m ws code p w w2)(dJ:qE b2 w2)(hb:w.heap.size<=b2)(hW:Mv (λx=>x=b2) w2 W):sK rb xb vA vS vR vW m ws code p w W:=by
 obtain⟨bs',a,b,c,h1,h2,h3,h4⟩:=h;refine⟨bs',a,b,c,h1.Jb dJ hW,h2.trans (T' :=λx=>x=b2) (λk hk=>.inr (by rw[hk];exact hb)) hW,h3,λh0=>(h4 h0).Jb dJ hW⟩
variable {m0:N.cE}
theorem qE.goes {q b2:Nat}{vW' :aG}{ws' :List N.eE}(dJ:qE b2 w)(hr:cH w rb vA vS vR bs m0)(hl:eH w xb rb vW' ws' q)(h:sK rb xb vA vS vR vW m ws code p w w2):qE b2 w2:=by
 obtain⟨_,_,_,_,_,h2,_,_⟩:=h;refine(h2.block b2 (cC dJ) ?_).trans dJ;rintro(x|x)
 ·exact hr.lK dJ (by decide) (by decide) (by decide) x
 ·rw[x] at dJ;exact absurd (cM hl.c dJ) (by decide)
theorem Wc {x:Option N.eE}{f:Bool}(h:N.dB m x f=0):oQ p x=p+1:=by
 obtain⟨t,rfl⟩:=rY h;rfl
def qZz (rb xb:Nat) (vA vS vR vW:aG) (ws:List N.eE) (res:N.cE×Int×Nat×Nat) (w:aY) (er wd:Int) (w' :aY):Prop:=er=res.2.1/\(er≠0->wd=(res.2.2.1:Int))/\sK rb xb vA vS vR vW res.1 ws er res.2.2.2 w w'
theorem Y9 (w:aY)(rb xb p:Nat)(vA vS vR:aG)(bs:List aG)(m:N.cE)(vW:aG)(ws:List N.eE)(h:cH w rb vA vS vR bs m)(hl:eH w xb rb vW ws (p+1))(hold:m.all.length+1<=1000000000000)(s:N.eE)(hs:s=To\/s=Uq\/s=Fo):
 bH aQ 56 #[aK (aE ⟨xb,0,aC⟩),aI ⟨s.toArray⟩] w λe w' =>e=aM (aH aF (N.one m ws p s).2.1)/\((N.one m ws p s).2.1≠0->(N.one m ws p s).2.2.1=p)/\sK rb xb vA vS vR vW (N.one m ws p s).1 ws (N.one m ws p s).2.1 (N.one m ws p s).2.2.2 w w' :=by
 have bad:∀er:Int,er≠0->∀w' M q,mZ rb xb vA vS vR vW bs M ws q w w' ->∀q',sK rb xb vA vS vR vW M ws er q' w w' :=λer he w' M q hg q' =>by
  obtain⟨a,b,c,h1,h2,h3,h4⟩:=hg;exact⟨bs,a,b,c,h1,h3,h4,λh0=>(he h0).elim⟩
 by_cases he:N.dB m ws[p+1]? aX=0
 ·have UL:=Wc (p:=p+1) he;rcases hs with rfl|rfl|rfl
  ·rw[Ih,dL (by simpa using he)];exact(Y7 w rb xb (p+1) vA vS vR bs m vW ws h hl hold he).mono λe w' hh=>⟨hh.1,λh0=>(h0 rfl).elim,by have:=hh.2;rw[UL] at this;exact this.d 0⟩
  ·rw[Ht,dL (by simpa using he)];rcases List.eq_nil_or_concat m.S with h0|⟨S,x,hS⟩
   ·have oM:N.pop m=aC:=by unfold N.pop;rw[h0];rfl
    rw[oM];exact(Kl w rb xb (p+1) vA vS vR bs m vW ws h hl he h0).mono λe w' hh=>⟨hh.1,λ_=>rfl,bad 6 (by decide) w' m _ hh.2 _⟩
   ·have hS:m.S=S++[x]:=by simpa using hS
    have oM:N.pop m=aE ({m with S:=S},x):=by unfold N.pop;rw[hS];simp
    rw[oM];exact(BQ w rb xb (p+1) vA vS vR bs m vW ws h hl hold he S x hS).mono λe w' hh=>⟨hh.1,λh0=>(h0 rfl).elim,by have:=hh.2;rw[UL] at this;exact this.d 0⟩
  ·rw[Cp,dL (by simpa using he)];exact(G6 w rb xb (p+1) vA vS vR bs m vW ws h hl hold he).mono λe w' hh=>⟨hh.1,λh0=>(h0 rfl).elim,by have:=hh.2;rw[UL] at this;exact this.d 0⟩
 ·have Ev:N.one m ws p s=(m,N.dB m ws[p+1]? aX,p,p+2):=by
   rcases hs with rfl|rfl|rfl
   ·rw[Ih,eJ he]
   ·rw[Ht,eJ he]
   ·rw[Cp,eJ he]
  rw[Ev];exact(C6 w rb xb (p+1) vA vS vR bs m vW ws h hl ⟨s.toArray⟩ he).mono λe w' hh=>⟨hh.1,λ_=>rfl,bad _ he w' m _ hh.2 _⟩
theorem U7 (w:aY)(rb xb p:Nat)(vA vS vR:aG)(bs:List aG)(m:N.cE)(vW:aG)(ws:List N.eE)(h:cH w rb vA vS vR bs m)(hl:eH w xb rb vW ws (p+1))(s:N.eE)(hs:s=Ff\/s=Uh):
 bH aQ 57 #[aK (aE ⟨xb,0,aC⟩),aI ⟨s.toArray⟩] w λe w' =>e=aM (aH aF (N.one m ws p s).2.1)/\((N.one m ws p s).2.1≠0->(N.one m ws p s).2.2.1=p)/\sK rb xb vA vS vR vW (N.one m ws p s).1 ws (N.one m ws p s).2.1 (N.one m ws p s).2.2.2 w w' :=by
 have key:∀tok:Bool,(N.one m ws p s).1=(oZ m ws[p+1]? tok).1->(N.one m ws p s).2.1=(oZ m ws[p+1]? tok).2->((N.one m ws p s).2.1≠0->(N.one m ws p s).2.2.1=p)->(N.one m ws p s).2.2.2=p+2->(s==[39])=tok->(N.dB m ws[p+1]? aV≠0->(oZ m ws[p+1]? tok).2≠0)->bH aQ 57 #[aK (aE ⟨xb,0,aC⟩),aI ⟨s.toArray⟩] w λe w' =>e=aM (aH aF (N.one m ws p s).2.1)/\((N.one m ws p s).2.1≠0->(N.one m ws p s).2.2.1=p)/\sK rb xb vA vS vR vW (N.one m ws p s).1 ws (N.one m ws p s).2.1 (N.one m ws p s).2.2.2 w w' :=by
  intro tok e1 e2 e3 e4 e5 e6;refine(Z5 w rb xb (p+1) vA vS vR bs m vW ws tok s e5 h hl).mono λe w' hh=>⟨by rw[e2];exact hh.1,e3,?_⟩
  obtain⟨a,b,c,h1,h2,h3,h4⟩:=hh.2;rw[e1,e4];refine⟨bs,a,b,c,h1,h3,h4,λh0=>?_⟩;have he:N.dB m ws[p+1]? aV=0:=by
   apply Decidable.byContradiction;intro hn;exact e6 hn (by rw[<-e2];exact h0)
  rw[Wc he] at h2;exact h2
 rcases hs with rfl|rfl
 ·refine key aV ?_ ?_ ?_ ?_ rfl ?_
  ·rw[wV];unfold oZ
   split
   ·rfl
   ·cases N.fP m ((ws[p+1]?).getD []) <;> rfl
  ·rw[wV];unfold oZ
   split
   ·rfl
   ·cases N.fP m ((ws[p+1]?).getD []) <;> rfl
  ·rw[wV]
   split
   ·exact λ_=>rfl
   ·cases N.fP m ((ws[p+1]?).getD []) with
    |none=>exact λ_=>rfl
    |some k=>exact λh0=>(h0 rfl).elim
  ·rw[wV]
   split
   ·rfl
   ·cases N.fP m ((ws[p+1]?).getD []) <;> rfl
  ·intro hn;unfold oZ;rw[eJ hn];exact hn
 ·refine key aX ?_ ?_ ?_ ?_ rfl ?_
  ·rw[Az];unfold oZ
   split
   ·rfl
   ·cases N.fP m ((ws[p+1]?).getD []) <;> rfl
  ·rw[Az];unfold oZ
   split
   ·rfl
   ·cases N.fP m ((ws[p+1]?).getD []) <;> rfl
  ·rw[Az]
   split
   ·exact λ_=>rfl
   ·cases N.fP m ((ws[p+1]?).getD []) with
    |none=>exact λ_=>rfl
    |some k=>exact λ_=>rfl
  ·rw[Az]
   split
   ·rfl
   ·cases N.fP m ((ws[p+1]?).getD []) <;> rfl
  ·intro hn;unfold oZ;rw[eJ hn];exact hn
theorem OW (w:aY)(rb xb p:Nat)(vA vS vR:aG)(bs:List aG)(m:N.cE)(vW:aG)(ws:List N.eE)(s:N.eE)(h:cH w rb vA vS vR bs m)(wM:Ka m)(hl:eH w xb rb vW ws p)(hs:ws[p]?=aE s)(jT:m.steps<=1000)(hold:m.all.length+1<=1000000000000):
 bH aQ 48 #[aK (aE ⟨xb,0,aC⟩)] w λe w' =>∃er wd:Int,e=aM (bM #[aH aF er,aH aF wd])/\qZz rb xb vA vS vR vW ws (N.one m ws p s) w er wd w' :=by
 obtain⟨gW,cW,NJ,cs,hgx⟩:=hl.word hs;have hp:=(bI.1 hs).1;have kO:bA w.heap.size w (w.alloc (aU #[aH aF 0,aH aF 0] 94)):=(bF _ _).alloc (bD _) _;have VM:=hl.below kO;have Tn:=VM.at (p+1) (aH aF ((p:Int)+1)) (by simp);have vG:=(h.below kO).q7 (i:=2) (u:=aH aF ((p:Int)+1)) VM;have hxlt:=cC hl.c;have MP:qE w.heap.size ((w.alloc (aU #[aH aF 0,aH aF 0] 94)).setCell ⟨xb,2,aC⟩ (aH aF ((p:Int)+1))):=(dA (by omega)).trans (heap_alloc_new w _);have qV:Mv (λk=>dV rb vA vS vR k\/k=xb) w ((w.alloc (aU #[aH aF 0,aH aF 0] 94)).setCell ⟨xb,2,aC⟩ (aH aF ((p:Int)+1))):=(Mv.dS kO _).setCell (p:=⟨xb,2,aC⟩) (.inl (.inr rfl)) _;have hst' :(⟨s.toArray⟩:ByteArray).toList=s:=by rw[Go.ByteArray.toList_eq]
 have vK:=rI ⟨s.toArray⟩ ((w.alloc (aU #[aH aF 0,aH aF 0] 94)).setCell ⟨xb,2,aC⟩ (aH aF ((p:Int)+1))).drew;rw[hst'] at vK;refine LS w rb xb p ws.length gW cW s (L.fJ s) (λer wd w' =>qZz rb xb vA vS vR vW ws (N.one m ws p s) w er wd w') hp hl.len (by rw[<-NJ];exact aZ hl.c rfl) (aZ hl.c rfl) (bG 2 hl.c) cs (vK.mono λe w1 hh=>⟨hh.1,?_⟩);have oN:bA ((w.alloc (aU #[aH aF 0,aH aF 0] 94)).setCell ⟨xb,2,aC⟩ (aH aF ((p:Int)+1))).heap.size ((w.alloc (aU #[aH aF 0,aH aF 0] 94)).setCell ⟨xb,2,aC⟩ (aH aF ((p:Int)+1))) w1:=⟨hh.2.os,hh.2.tape,hh.2.output,hh.2.size,hh.2.block⟩
 have N9:=vG.below oN;have UO:=Tn.below oN;have M7:qE w.heap.size w1:=(oN.block w.heap.size (cC MP)).trans MP;have ZA:=qV.trans (dG.refl _ _) (Mv.dS oN _);have Bw:∀a b:N.eE,a≠b->(a==b)=aV:=λa b Ma=>by rw[beq_eq_false_iff_ne];exact Ma
 by_cases h1:s=Ng
 ·left
  refine⟨h1,(Zr w1 rb xb p vA vS vR bs m vW ws N9 UO hold).mono λe w2 hx=>?_⟩;obtain⟨er,wd,e1,e2,e3,hg⟩:=hx;have Gy:=M7.goes N9 UO hg;refine⟨er,wd,e1,Gy,λW hW=>?_⟩;rw[h1];exact⟨e2,e3,(hg.after ZA).res Gy (bD _) hW⟩
 by_cases h2:s=To\/s=Uq\/s=Fo
 ·right;left
  refine⟨h2,(Y9 w1 rb xb p vA vS vR bs m vW ws N9 UO hold s h2).mono λe w2 hx=>?_⟩;obtain⟨e1,e3,hg⟩:=hx;have Gy:=M7.goes N9 UO hg;exact⟨_,e1,Gy,λW hW=>⟨rfl,λh0=>by rw[e3 h0],(hg.after ZA).res Gy (bD _) hW⟩⟩
 by_cases h3:s=Ff\/s=Uh
 ·right;right;left
  refine⟨h3,(U7 w1 rb xb p vA vS vR bs m vW ws N9 UO s h3).mono λe w2 hx=>?_⟩;obtain⟨e1,e3,hg⟩:=hx;have Gy:=M7.goes N9 UO hg;exact⟨_,e1,Gy,λW hW=>⟨rfl,λh0=>by rw[e3 h0],(hg.after ZA).res Gy (bD _) hW⟩⟩
 have n2:s≠To/\s≠Uq/\s≠Fo:=⟨λe=>h2 (.inl e),λe=>h2 (.inr (.inl e)),λe=>h2 (.inr (.inr e))⟩
 have n3:s≠Ff/\s≠Uh:=⟨λe=>h3 (.inl e),λe=>h3 (.inr e)⟩
 have Ev:=Il m ws p s h1 n3.2 n2.1 n2.2.1 n2.2.2 n3.1;have bads:∀(w2 W:aY) (code:Int),code≠0->sK rb xb vA vS vR vW m ws code (p+1) w1 w2->Mv (λx=>x=w.heap.size) w2 W->qE w.heap.size w2->N.one m ws p s=(m,code,p,p+1)->qZz rb xb vA vS vR vW ws (N.one m ws p s) w code (p:Int) W:=λw2 W code hc hg hW Gy he=>by
  rw[he];exact⟨rfl,λ_=>rfl,(hg.after ZA).res Gy (bD _) hW⟩
 cases hJ:L.fJ s with
 |true=>
  right;right;right;left
  rw[hJ] at Ev;refine⟨rfl,Bw _ _ h1,Bw _ _ n2.1,Bw _ _ n2.2.1,Bw _ _ n2.2.2,Bw _ _ n3.1,Bw _ _ n3.2,M7,λW hW=>bads w1 W 3 (by decide) ⟨bs,vA,vS,vR,N9,Mv.refl _ _,dG.refl _ _,λh0=>absurd h0 (by decide)⟩ hW M7 Ev⟩
 |false=>
  right;right;right;right
  rw[hJ,dL Bool.false_ne_true] at Ev;refine⟨rfl,Bw _ _ h1,Bw _ _ n2.1,Bw _ _ n2.2.1,Bw _ _ n2.2.2,Bw _ _ n3.1,Bw _ _ n3.2,aZ UO.c rfl,(Ar w1 rb vA vS vR bs m s N9).mono λe w2 hx=>?_⟩;obtain⟨e1,eD⟩:=hx;have qT:=N9.below eD;have hL2:=UO.below eD;have Gy:qE w.heap.size w2:=(eD.block w.heap.size (cC M7)).trans M7;have hM2:=ZA.trans (dG.refl _ _) (Mv.dS eD _);cases zY:N.iU m s with
  |none=>
   rw[zY] at e1 Ev;refine⟨1,0,[],aV,e1,aZ hL2.c rfl,.inl ⟨rfl,Gy,λW hW=>?_⟩⟩;exact bads w2 W 2 (by decide) ⟨bs,vA,vS,vR,qT,Mv.dS eD _,dG.refl _ _,λh0=>absurd h0 (by decide)⟩ hW Gy Ev
  |some c=>
   rw[zY] at e1 Ev;simp only at Ev;refine⟨(c.kind:Int),c.n,c.name,aX,e1,aZ hL2.c rfl,.inr ?_⟩;have hbC:bA w2.heap.size w2 (w2.alloc (aU #[aH aF c.kind,aH aF c.n,aI ⟨c.name.toArray⟩] 101)).drew:=((bF _ _).alloc (bD _) _).drew;have eh:=qT.below hbC;have hLC:=hL2.below hbC;have hSC:qE w.heap.size (w2.alloc (aU #[aH aF c.kind,aH aF c.n,aI ⟨c.name.toArray⟩] 101)).drew:=(hbC.block w.heap.size (cC Gy)).trans Gy;have hMC:=hM2.trans (dG.refl _ _) (Mv.dS hbC _);have eY:(w2.alloc (aU #[aH aF c.kind,aH aF c.n,aI ⟨c.name.toArray⟩] 101)).drew.heap[w2.heap.size]?=aE (aU #[aH aF c.kind,aH aF c.n,aI ⟨c.name.toArray⟩] 101):=heap_alloc_new w2 _;have fin:∀w3,dP rb vA vS vR bs (N.gC N.fuel m 0 c).1 (w2.alloc (aU #[aH aF c.kind,aH aF c.n,aI ⟨c.name.toArray⟩] 101)).drew w3->qE w.heap.size w3/\(∀W,Mv (λx=>x=w.heap.size) w3 W->qZz rb xb vA vS vR vW ws (N.one m ws p s) w (N.gC N.fuel m 0 c).2 (p:Int) W)/\w3.cell? ⟨xb,0,aC⟩=aE (aK (aE ⟨rb,0,aC⟩))/\w3.heap[w2.heap.size]?=aE (aU #[aH aF c.kind,aH aF c.n,aI ⟨c.name.toArray⟩] 101):=λw3 hg=>by
    have zW:=hg.line eh hLC;have MF:=zW.d (N.gC N.fuel m 0 c).2;have VK:=hSC.goes eh hLC MF;have Bz:Mv (dV rb vA vS vR) (w2.alloc (aU #[aH aF c.kind,aH aF c.n,aI ⟨c.name.toArray⟩] 101)).drew w3:=by
     obtain⟨_,_,_,_,h5,_⟩:=hg;exact h5
    refine⟨VK,λW hW=>?_,?_,?_⟩
    ·rw[Ev];exact⟨rfl,λ_=>rfl,(MF.after hMC).res VK (bD _) hW⟩
    ·exact aZ (hLC.mv eh Bz).c rfl
    ·exact(Bz.block w2.heap.size (cC eY) (eh.sT ⟨_,_,eY⟩)).trans eY
   have o9:=(Pw zY)
   have fK:=QV rb bs N.fuel;rcases o9.2 with ⟨xI,nM⟩|⟨tC,jj,ee,hn,eQ,Q9,DT⟩|⟨TX,Ja⟩|⟨Gx,_⟩
   ·left
    refine⟨rfl,by rw[xI];rfl,?_⟩;have e1:N.gC N.fuel m 0 c=N.push m c.n:=eJ xI;rw[e1] at fin;refine(zJ _ rb vA vS vR bs m c.n nM eh).mono λe w3 hx=>?_
    obtain⟨f1,f2,f3,f4⟩:=fin w3 hx.2;exact⟨_,hx.1,f1,f2,f3,aZ f4 rfl⟩
   ·right;left
    refine⟨rfl,by rw[tC];rfl,?_⟩;have e1:N.gC N.fuel m 0 c=N.owns N.fuel m jj 0:=by
     have:c.n.toNat=jj:=by omega
     rw[<-this];exact(dL (by omega)).trans (eJ tC)
    rw[e1] at fin;rw[hn] at fin ⊢;have hx:=fK (w2.alloc (aU #[aH aF c.kind,aH aF jj,aI ⟨c.name.toArray⟩] 101)).drew vA vS vR m jj ee 0 (by rw[hn] at eh;exact eh) wM Q9 DT (by decide) jT (by unfold N.fuel;omega);refine hx.mono λe w3 hx=>?_
    obtain⟨f1,f2,f3,f4⟩:=fin w3 hx.2;exact⟨_,hx.1,f1,f2,f3,aZ f4 rfl⟩
   ·right;right
    refine⟨rfl,by rw[TX];rfl,?_⟩;rw[<-Fc N.fuel m 0 c TX] at fin;have hx:=Oy (w2.alloc (aU #[aH aF c.kind,aH aF c.n,aI ⟨c.name.toArray⟩] 101)).drew rb vA vS vR bs m 0 (λM j=>N.owns N.fuel M j 0) c.name (by rw[xQ];exact Ja) eh (by
     intro W' pU jj M hM kA q9 ⟨ee,Q9,DT⟩;exact fK W' vA pU vR M jj ee 0 hM (wM.fZ kA) Q9 DT (by decide) (by rw[q9];exact jT) (by unfold N.fuel;omega))
    refine hx.mono λe w3 hx=>?_
    obtain⟨f1,f2,f3,f4⟩:=fin w3 hx.2;exact⟨_,hx.1,f1,f2,f3,aZ f4 rfl⟩
   ·exact(o9.1 Gx).elim
variable {t:TypeId}{b:Nat}
theorem QI {z:aG}(h:((aQ).info? t).map (λi=>(i.zero,i.size,i.bytes))=aE (aE z,n,b)):∃i,(aQ).info? t=aE i/\i.zero=aE z/\i.size=n/\i.bytes=b:=by
 cases hi:(aQ).info? t with
 |none=>rw[hi] at h;cases h
 |some i=>
  rw[hi] at h;simp only[Option.map_some,aE.injEq,Prod.mk.injEq] at h;exact⟨i,rfl,h.1,h.2.1,h.2.2⟩
theorem ie:∃i,(aQ).info? 9=aE i/\i.zero=aE (aI ⟨#[]⟩)/\i.size=1/\i.bytes=16:=QI (by kernel_rfl)
def Qg (st:Option Nat):aG:=match st with|none=>aH aF (-1)|some a=>aH aF a
def EY (w:aY) (line:ByteArray) (l Mg i:aG) (wr:aY):Prop:=
 ∃(k:Nat) (st:Option Nat) (acc:List (List UInt8)),i=aH aF k/\Mg =Qg st/\(∀a,st=aE a->a<k/\k<=line.size)/\k<=line.size+1/\acc.length<=k/\
  wr.ownsRow 0 9 1 l acc.length (acc.map λb=>aI ⟨b.toArray⟩)/\(∀j,l.ownBlock=aE j->w.heap.size<=j)/\bA w.heap.size w wr/\
  (if k<=line.size then L.split line.data.toList=acc++L.iZ (line.data.toList.drop k) (L.nL line.data.toList st k) else L.split line.data.toList=acc)
theorem L8 (c:UInt8):(L.blank c=aX/\(((c.toNat:Int)==32)=aX\/(((c.toNat:Int)==32)=aV/\((c.toNat:Int)==9)=aX)\/(((c.toNat:Int)==32)=aV/\((c.toNat:Int)==9)=aV/\((c.toNat:Int)==10)=aX)\/(((c.toNat:Int)==32)=aV/\((c.toNat:Int)==9)=aV/\((c.toNat:Int)==10)=aV/\((c.toNat:Int)==13)=aX)))\/
 (L.blank c=aV/\((c.toNat:Int)==32)=aV/\((c.toNat:Int)==9)=aV/\((c.toNat:Int)==10)=aV/\((c.toNat:Int)==13)=aV):=by
 simp only[L.blank,L.qM,dY,Bool.or_eq_false_iff,beq_iff_eq,beq_eq_false_iff_ne];omega
theorem PG (line:ByteArray)(k:Nat)(h:k<line.size):line.data.toList.drop k=line[k]::line.data.toList.drop (k+1):=by
 rw[List.drop_eq_getElem_cons (by simpa using h)];rfl
theorem K3 (line:ByteArray)(a k:Nat)(h:k<line.size)(ha:a<=k):L.nL line.data.toList (aE a) (k+1)=L.nL line.data.toList (aE a) k++[line[k]]:=by
 have hl:=Lib.size_eq line;simp only[L.nL,L.cut];rw[dF (by omega),List.drop_append_of_le_length (by rw[dH];omega)];rfl
theorem PW (l:List UInt8)(k:Nat):L.nL l (aE k) k=[]:=by
 simp only[L.nL,L.cut];exact List.drop_eq_nil_of_le (by rw[dH];omega)
theorem Lg (line:ByteArray)(a k:Nat)(ha:a<k)(hk:k<=line.size):(L.nL line.data.toList (aE a) k).isEmpty=aV:=by
 have hl:=Lib.size_eq line;rw[List.isEmpty_eq_false_iff];intro h0;have:=congrArg List.length h0;simp only[L.nL,L.cut,List.length_drop,dH,List.length_nil] at this;omega
theorem G9 (line:ByteArray)(a k:Nat):(⟨(L.nL line.data.toList (aE a) k).toArray⟩:ByteArray)=line.extract a k:=by
 apply ByteArray.ext;apply Array.ext';simp[L.nL,L.cut,List.drop_take]
variable {k:Nat}
theorem Qw {wr:aY}{line:ByteArray}{u3:aG}{a mT :Nat}{a' :Option Addr}{acc:List (List UInt8)}(HB:∀j,u3.ownBlock=aE j->w.heap.size<=j)(HW:bA w.heap.size w wr)(hk:k<=line.size)(Jv:acc.length<=k)(o2:w2.ownsRow 0 9 1 (aJ a' (acc.length+1) mT) (acc.length+1) (acc.map (λb=>aI ⟨b.toArray⟩)++[aI (line.extract a k)]))(g2:(wr.alloc (aU #[aI (line.extract a k)] 9)).grownBy w2 u3.ownBlock)(t2:(aJ a' (acc.length+1) mT).ownBlock=u3.ownBlock\/(aJ a' (acc.length+1) mT).ownBlock=aE (wr.alloc (aU #[aI (line.extract a k)] 9)).heap.size)(hinv:if k+1<=line.size then L.split line.data.toList=(acc++[L.nL line.data.toList (aE a) k])++L.iZ (line.data.toList.drop (k+1)) [] else L.split line.data.toList=acc++[L.nL line.data.toList (aE a) k]):
 EY w line (aJ a' (acc.length+1) mT) (aH aF (-1)) (aH aF ((k:Int)+1)) w2:=by
 have hsz1:=HW.size;have bq:bA w.heap.size w w2:=(HW.alloc hsz1 _).grown g2 (by simp;omega) HB;have eY:(acc++[L.nL line.data.toList (aE a) k]).map (λb=>aI ⟨b.toArray⟩)=acc.map (λb=>aI ⟨b.toArray⟩)++[aI (line.extract a k)]:=by
  rw[List.map_append,List.map_cons,List.map_nil,G9]
 refine⟨k+1,aC,acc++[L.nL line.data.toList (aE a) k],by go_num,rfl,by simp,by omega,by simp;omega,?_,?_,bq,hinv⟩
 ·rw[eY,bN];exact o2
 ·intro j hj;rcases t2 with t|t
  ·exact HB j (t▸hj)
  ·rw[t] at hj;injection hj with hj;simp at hj;omega
theorem Vw (line:ByteArray)(w:aY)(hs:line.size<=4294967296):
 bH aQ 40 #[aI line] w λe w' =>∃v,e=aM v/\w'.ownsRow 0 9 1 v (L.split line.data.toList).length ((L.split line.data.toList).map λb=>aI ⟨b.toArray⟩)/\(∀j,v.ownBlock=aE j->w.heap.size<=j)/\bA w.heap.size w w' :=by
 have hsz:=Lib.size_eq line;have HSZ:=bE hsz;clear hsz;obtain⟨i9,hi9,hz9,hs9,hb9⟩:=ie;go_enter func40,ntmps40;go_wp2
 go_loopw [3,4,5] (λl f i wr=>EY w line l f i wr) (λ_ _ i _=>line.size+1-(intOf i).toNat)
 case atStart=>exact⟨0,aC,[],rfl,rfl,by simp,by omega,by simp,aY.ownsRow_nil _ _ _ _,kU,bF _ _,by rw[eJ (bZ _)];rfl⟩
 case round=>
  obtain⟨k,st,acc,rfl,rfl,jT,hk,Jv,fK,Mi,tX,hinv⟩:=hrel;have HO:=bE fK;have HB:=bE Mi;have HW:=bE tX;have HS:=bE jT;have hsz1:=tX.size;by_cases hle:k<=line.size
  ·rw[eJ hle] at hinv;by_cases heq:k=line.size
   ·subst heq;have Kz:line.data.toList.drop line.size=[]:=List.drop_eq_nil_of_le (by rw[<-aN HSZ];exact bD _);rw[Kz] at hinv;cases st with
    |none=>
     have HI:=bE hinv;clear fK Mi tX hinv jT Kz;simp only[Qg];go_wp2;exact⟨⟨line.size+1,aC,acc,by go_num,rfl,by simp,by omega,by omega,aN HO,aN HB,aN HW,by rw[dL (by omega)];simpa[L.iZ,L.nL] using aN HI⟩,by simp[intOf]⟩
    |some a=>
     have ha:=jT a rfl;have jD:=Lg line a line.size ha.1 ha.2;have HI:=bE (show L.split line.data.toList=acc++[L.nL line.data.toList (aE a) line.size] by rw[hinv,L.iZ,dL (by rw[jD];simp)]);have hak:(a:Int)<=(line.size:Int):=by omega
     clear fK Mi tX hinv jT Kz jD;simp only[Qg];go_wp2_with (at_builtin;refine kV _ (by rfl) (.tmp 55) (.tmp 60) 23 (by rfl) 9 i9 (aI ⟨#[]⟩) 16 underlying23 hi9 hz9 hs9 hb9 rfl u3 acc.length (acc.map λb=>aI ⟨b.toArray⟩) (by rfl) (by exact(aN HO).alloc _) (aJ (aE ⟨wr.heap.size,0,aC⟩) 1 1) [aI (line.extract a line.size)] (by rfl) (by exact lY wr _ 9 rfl rfl) (by simp[aG.oneCell']) (by unfold maxLen;simp;omega) (by simp;omega) ?_;intro a' mT w2 o2 g2 t2)
     exact⟨Qw (aN HB) (aN HW) (bD _) Jv o2 g2 t2 (by rw[dL (by omega)];exact aN HI),by simp[intOf]⟩
   ·have eQ:k<line.size:=by omega
    have kO:((k:Int)==(line.size:Int))=aV:=by rw[beq_eq_false_iff_ne];omega
    rw[PG line k eQ] at hinv;clear heq;rcases L8 line[k] with ⟨oN,qI⟩|⟨oN,c1,c2,c3,c4⟩
    ·rw[L.iZ,eJ oN] at hinv;cases st with
     |none=>
      have HI:=bE (show L.split line.data.toList=acc++L.iZ (line.data.toList.drop (k+1)) [] by rw[hinv];rfl);clear fK Mi tX hinv jT oN;simp only[Qg];rcases qI with c1|⟨c1,c2⟩|⟨c1,c2,c3⟩|⟨c1,c2,c3,c4⟩
      all_goals
       go_wp2;exact⟨⟨k+1,aC,acc,by go_num,rfl,by simp,by omega,by omega,aN HO,aN HB,aN HW,by rw[eJ (by omega)];exact aN HI⟩,by simp[intOf];omega⟩
     |some a=>
      have ha:=jT a rfl;have jD:=Lg line a k ha.1 ha.2;have HI:=bE (show L.split line.data.toList=(acc++[L.nL line.data.toList (aE a) k])++L.iZ (line.data.toList.drop (k+1)) [] by rw[hinv,dL (by rw[jD];simp)];simp);have hak:(a:Int)<=(k:Int):=by omega
      clear fK Mi tX hinv jT oN jD;simp only[Qg];rcases qI with c1|⟨c1,c2⟩|⟨c1,c2,c3⟩|⟨c1,c2,c3,c4⟩
      all_goals
       go_wp2_with (at_builtin;refine kV _ (by rfl) (.tmp 55) (.tmp 60) 23 (by rfl) 9 i9 (aI ⟨#[]⟩) 16 underlying23 hi9 hz9 hs9 hb9 rfl u3 acc.length (acc.map λb=>aI ⟨b.toArray⟩) (by rfl) (by exact(aN HO).alloc _) (aJ (aE ⟨wr.heap.size,0,aC⟩) 1 1) [aI (line.extract a k)] (by rfl) (by exact lY wr _ 9 rfl rfl) (by simp[aG.oneCell']) (by unfold maxLen;simp;omega) (by simp;omega) ?_;intro a' mT w2 o2 g2 t2)
       exact⟨Qw (aN HB) (aN HW) hle Jv o2 g2 t2 (by rw[eJ (by omega)];exact aN HI),by simp[intOf];omega⟩
    ·rw[L.iZ,dL (by rw[oN];simp)] at hinv;cases st with
     |none=>
      have HI:=bE (show L.split line.data.toList=acc++L.iZ (line.data.toList.drop (k+1)) (L.nL line.data.toList (aE k) (k+1)) by rw[hinv,K3 line k k eQ (bD _),PW];rfl);clear fK Mi tX hinv jT oN;simp only[Qg];go_wp2;exact⟨⟨k+1,aE k,acc,by go_num,rfl,by intro b hb;injection hb;omega,by omega,by omega,aN HO,aN HB,aN HW,by rw[eJ (by omega)];exact aN HI⟩,by simp[intOf];omega⟩
     |some a=>
      have ha:=jT a rfl;have HI:=bE (show L.split line.data.toList=acc++L.iZ (line.data.toList.drop (k+1)) (L.nL line.data.toList (aE a) (k+1)) by rw[hinv,K3 line a k eQ (by omega)]);have ha0:¬((a:Int)<0):=by omega
      clear fK Mi tX hinv jT oN;simp only[Qg];go_wp2;exact⟨⟨k+1,aE a,acc,by go_num,rfl,by intro b hb;injection hb;omega,by omega,by omega,aN HO,aN HB,aN HW,by rw[eJ (by omega)];exact aN HI⟩,by simp[intOf];omega⟩
  ·rw[dL hle] at hinv;have HI:=bE hinv;clear fK Mi tX hinv jT;go_wp2;go_ret;refine⟨_,rfl,?_,aN HB,aN HW⟩;rw[aN HI];exact aN HO
section
attribute [local go_sem ↓] Go.wp_at_zero Go.wp_at_succ
def Ph (b4:Nat) (w:aY):Prop:=w.heap[b4]?=aE (aU #[aI ⟨#[]⟩,aH aF 0,aH aF 0] 36)
def gd (fU:ByteArray->Int->Int->aY->Prop) (rb b4 fb:Nat) (er wd:Int) (wX:aY):Prop:=
 ∃(out:ByteArray) (u1 u2:aG),er≠0/\wX.cell? ⟨rb,1,aC⟩=aE u1/\wX.frozen? ⟨rb,1,aC⟩=aV/\wX.cell? ⟨rb,2,aC⟩=aE u2/\wX.frozen? ⟨rb,2,aC⟩=aV/\wX.cell? ⟨fb,0,aC⟩=aE (aH aF er)/\((wX.setCell ⟨rb,1,aC⟩ (aJ aC 0 0)).setCell ⟨rb,2,aC⟩ (aJ aC 0 0)).cell? ⟨rb,3,aC⟩=aE (aI out)/\((wX.setCell ⟨rb,1,aC⟩ (aJ aC 0 0)).setCell ⟨rb,2,aC⟩ (aJ aC 0 0)).cell? ⟨fb,0,aC⟩=aE (aH aF er)/\((wX.setCell ⟨rb,1,aC⟩ (aJ aC 0 0)).setCell ⟨rb,2,aC⟩ (aJ aC 0 0)).cell? ⟨fb,1,aC⟩=aE (aH aF wd)/\Ph b4 ((wX.setCell ⟨rb,1,aC⟩ (aJ aC 0 0)).setCell ⟨rb,2,aC⟩ (aJ aC 0 0))/\rb≠b4/\fb≠b4/\∀W,Mv (λx=>x=b4) ((wX.setCell ⟨rb,1,aC⟩ (aJ aC 0 0)).setCell ⟨rb,2,aC⟩ (aJ aC 0 0)) W->fU out er wd W
def ZZ (P:aY->Prop) (mu:aY->Nat) (fU:ByteArray->Int->Int->aY->Prop) (rb xb b4:Nat) (wr:aY):Prop:=
 ∃(q n cW:Nat) (aW:Option Addr),n<=500/\q<=600/\wr.cell? ⟨xb,1,aC⟩=aE (aJ aW n cW)/\wr.cell? ⟨xb,2,aC⟩=aE (aH aF q)/\Ph b4 wr/\
  ((¬q<n/\∃out:ByteArray,wr.cell? ⟨rb,3,aC⟩=aE (aI out)/\∀W,Mv (λx=>x=b4) wr W->fU out 0 0 W)\/
   (q<n/\bH aQ 47 #[aK (aE ⟨rb,0,aC⟩)] (wr.alloc (aU #[aH aF 14,aH aF q] 94)).drew λe w1=>(e=aM (bB aV)/\gd fU rb b4 wr.heap.size 14 (q:Int) w1)\/
    (e=aM (bB aX)/\bH aQ 48 #[aK (aE ⟨xb,0,aC⟩)] w1 λe w2=>∃er wd:Int,e=aM (bM #[aH aF er,aH aF wd])/\(∃u0 u1,w2.cell? ⟨wr.heap.size,0,aC⟩=aE u0/\w2.cell? ⟨wr.heap.size,1,aC⟩=aE u1)/\w2.frozen? ⟨wr.heap.size,0,aC⟩=aV/\w2.frozen? ⟨wr.heap.size,1,aC⟩=aV/\
     (gd fU rb b4 wr.heap.size er wd ((w2.setCell ⟨wr.heap.size,0,aC⟩ (aH aF er)).setCell ⟨wr.heap.size,1,aC⟩ (aH aF wd))\/(er=0/\((w2.setCell ⟨wr.heap.size,0,aC⟩ (aH aF er)).setCell ⟨wr.heap.size,1,aC⟩ (aH aF wd)).cell? ⟨wr.heap.size,0,aC⟩=aE (aH aF 0)/\P ((w2.setCell ⟨wr.heap.size,0,aC⟩ (aH aF er)).setCell ⟨wr.heap.size,1,aC⟩ (aH aF wd))/\mu ((w2.setCell ⟨wr.heap.size,0,aC⟩ (aH aF er)).setCell ⟨wr.heap.size,1,aC⟩ (aH aF wd))<mu wr)))))
theorem Ql (u0 u1 u2:aG):Mv (λx=>x=b) w (((w.setCell ⟨b,0,aC⟩ u0).setCell ⟨b,1,aC⟩ u1).setCell ⟨b,2,aC⟩ u2):=((Mv.setCell (T:=λx=>x=b) (Mv.refl _ _) (p:=⟨b,0,aC⟩) (.inl rfl) u0).setCell (p:=⟨b,1,aC⟩) (.inl rfl) u1).setCell (p:=⟨b,2,aC⟩) (.inl rfl) u2
theorem PU (w:aY)(rb:Nat)(text:ByteArray)(hlen:¬text.size<=500):
 bH aQ 33 #[aK (aE ⟨rb,0,aC⟩),aI text] w λr w' =>r=aM (bM #[aI ⟨#[]⟩,aH aF 1,aH aF 0])/\bA w.heap.size w w' :=by
 have h1:(500:Int)<(text.size:Int):=by omega
 go_enter func33,ntmps33;go_wp2;have Fx:=heap_alloc_new w (aU #[aI ⟨#[]⟩,aH aF 1,aH aF 0] 36);have b0:=aZ (j:=0) Fx rfl;have b1:=aZ (j:=1) Fx rfl;have b2:=aZ (j:=2) Fx rfl;refine bodyPost_ret (v:=bM #[aI ⟨#[]⟩,aH aF 1,aH aF 0]) (by simp[results,results33,go_sem,b0,b1,b2]) rfl ⟨rfl,?_⟩;exact(bF _ _).alloc (bD _) _
theorem PX (w:aY)(rb:Nat)(text:ByteArray)(hlen:text.size<=500)(u3 u4:aG)(c3:w.cell? ⟨rb,3,aC⟩=aE u3)(f3:w.frozen? ⟨rb,3,aC⟩=aV)(c4:w.cell? ⟨rb,4,aC⟩=aE u4)(f4:w.frozen? ⟨rb,4,aC⟩=aV)(P:Nat->aY->Prop)(mu:Nat->aY->Nat)(fU:ByteArray->Int->Int->aY->Prop)(SJ:bH aQ 40 #[aI text] (((w.alloc (aU #[aI ⟨#[]⟩,aH aF 0,aH aF 0] 36)).setCell ⟨rb,3,aC⟩ (aI ⟨#[]⟩)).setCell ⟨rb,4,aC⟩ (aH aF 0)) λe w1=>∃(aW:Option Addr) (n cW:Nat),e=aM (aJ aW n cW)/\P w1.heap.size (w1.alloc (aU #[aK (aE ⟨rb,0,aC⟩),aJ aW n cW,aH aF 0] 92)))(H:Hid (∀xb wr,P xb wr->ZZ (P xb) (mu xb) fU rb xb w.heap.size wr)):
 bH aQ 33 #[aK (aE ⟨rb,0,aC⟩),aI text] w λe w' =>∃(out:ByteArray) (er wd:Int),e=aM (bM #[aI out,aH aF er,aH aF wd])/\fU out er wd w' :=by
 have h1:¬(500:Int)<(text.size:Int):=by omega
 have d3:=bJ c3 (aU #[aI ⟨#[]⟩,aH aF 0,aH aF 0] 36);have d4:=bJ c4 (aU #[aI ⟨#[]⟩,aH aF 0,aH aF 0] 36);have g3:(w.alloc (aU #[aI ⟨#[]⟩,aH aF 0,aH aF 0] 36)).frozen? ⟨rb,3,aC⟩=aV:=cY (bU w _ aC) c3 f3 (by simp);have g4:(w.alloc (aU #[aI ⟨#[]⟩,aH aF 0,aH aF 0] 36)).frozen? ⟨rb,4,aC⟩=aV:=cY (bU w _ aC) c4 f4 (by simp);have HS:=bE SJ;clear SJ c3 c4 f3 f4 hlen;go_enter func33,ntmps33;go_wp2_with fail
 refine(aN HS).mono ?_;rintro e w1 ⟨aW,n0,cW0,rfl,hP⟩;have HP0:=bE hP;clear hP d3 d4 g3 g4 HS;go_wp2
 go_loopw [6] (λ_ wr=>P w1.heap.size wr) (λ_ wr=>mu w1.heap.size wr)
 case atStart=>exact aN HP0
 case round=>
  have hh:=aN H _ wr hrel;clear hrel HP0;generalize w1.heap.size=xb at*;obtain⟨q,n,cW,aW,hn,hq,c1,c2,dJ,qI⟩:=hh;have b0:=cq 0 dJ rfl;have b1:=cq 1 dJ rfl;have b2:=cq 2 dJ rfl;have y0:=bG 0 dJ;have y1:=bG 1 dJ;have y2:=bG 2 dJ;rcases qI with ⟨Og,out,co,mL⟩|⟨eQ,gQ⟩
  ·have k1:¬((q:Int)<(n:Int)):=by omega
   have HP:=bE (bK dJ mL);clear Og mL dJ hn hq;go_wp2;go_region_held3 (λw' =>w'.cell? ⟨xb,1,aC⟩=aE (aJ aW n cW)/\w'.cell? ⟨xb,2,aC⟩=aE (aH aF q)) (first|exact⟨c1,c2⟩|go_keep) (fail)
   go_wp2;have eR:=bV (bV (bV ((aN HP).1) 0 (aI out)) 1 (aH aF 0)) 2 (aH aF 0);have z0:=aZ (j:=0) eR rfl;have z1:=aZ (j:=1) eR rfl;have z2:=aZ (j:=2) eR rfl;exact bodyPost_ret (v:=bM #[aI out,aH aF 0,aH aF 0]) (by simp[results,results33,go_sem,z0,z1,z2]) rfl ⟨out,0,0,rfl,(aN HP).2 _ (Ql _ _ _).drew⟩
  ·have k1:(q:Int)<(n:Int):=by omega
   have HC:=bE gQ;clear eQ gQ dJ hn hq b0 b1 b2 y0 y1 y2;go_wp2;go_region_held3 (λw' =>w'.cell? ⟨xb,1,aC⟩=aE (aJ aW n cW)/\w'.cell? ⟨xb,2,aC⟩=aE (aH aF q)) (first|exact⟨c1,c2⟩|go_keep) (fail)
   go_wp2_with fail
   refine(aN HC).mono ?_;clear HC;generalize wr.heap.size=fb at*;rintro e w2 (⟨rfl,Kz⟩|⟨rfl,Ev⟩)
   ·obtain⟨out,v1,v2,hz,e1,r1,e2,r2,e3,e4,e5,e6,dJ,nrb,MW,mL⟩:=Kz;have b0:((w2.setCell ⟨rb,1,aC⟩ (aJ aC 0 0)).setCell ⟨rb,2,aC⟩ (aJ aC 0 0)).cell? ⟨w.heap.size,0,aC⟩=aE (aI ⟨#[]⟩):=aZ dJ rfl;have b1:((w2.setCell ⟨rb,1,aC⟩ (aJ aC 0 0)).setCell ⟨rb,2,aC⟩ (aJ aC 0 0)).cell? ⟨w.heap.size,1,aC⟩=aE (aH aF 0):=aZ dJ rfl;have b2:((w2.setCell ⟨rb,1,aC⟩ (aJ aC 0 0)).setCell ⟨rb,2,aC⟩ (aJ aC 0 0)).cell? ⟨w.heap.size,2,aC⟩=aE (aH aF 0):=aZ dJ rfl;have y0:((w2.setCell ⟨rb,1,aC⟩ (aJ aC 0 0)).setCell ⟨rb,2,aC⟩ (aJ aC 0 0)).frozen? ⟨w.heap.size,0,aC⟩=aV:=bG 0 dJ;have y1:((w2.setCell ⟨rb,1,aC⟩ (aJ aC 0 0)).setCell ⟨rb,2,aC⟩ (aJ aC 0 0)).frozen? ⟨w.heap.size,1,aC⟩=aV:=bG 1 dJ;have y2:((w2.setCell ⟨rb,1,aC⟩ (aJ aC 0 0)).setCell ⟨rb,2,aC⟩ (aJ aC 0 0)).frozen? ⟨w.heap.size,2,aC⟩=aV:=bG 2 dJ;have HP:=bE (bK dJ mL);clear dJ mL hz;go_upto_region 15 with (fail)
    generalize((w2.setCell ⟨rb,1,aC⟩ (aJ aC 0 0)).setCell ⟨rb,2,aC⟩ (aJ aC 0 0))=w9 at*;go_region_held3 (λw' =>w'.cell? ⟨rb,3,aC⟩=aE (aI out)/\w'.cell? ⟨fb,0,aC⟩=aE (aH aF 14)/\w'.cell? ⟨fb,1,aC⟩=aE (aH aF q)) (first|exact⟨e4,e5,e6⟩|exact(by assumption)|exact⟨cQ (cQ (cQ e4 nrb) nrb) nrb,cQ (cQ (cQ e5 MW) MW) MW,cQ (cQ (cQ e6 MW) MW) MW⟩|go_keep) (fail)
    go_wp2;have eR:=bV (bV (bV ((aN HP).1) 0 (aI out)) 1 (aH aF 14)) 2 (aH aF q);have z0:=aZ (j:=0) eR rfl;have z1:=aZ (j:=1) eR rfl;have z2:=aZ (j:=2) eR rfl;exact bodyPost_ret (v:=bM #[aI out,aH aF 14,aH aF q]) (by simp[results,results33,go_sem,z0,z1,z2]) rfl ⟨out,14,(q:Int),rfl,(aN HP).2 _ (Ql _ _ _).drew⟩
   ·have HO:=bE Ev;clear Ev;go_wp2_with fail
    refine(aN HO).mono ?_;clear HO;rintro e w3 ⟨er,wd,rfl,⟨u0,u1,x0,x1⟩,xf0,xf1,qI⟩;rcases qI with Kz|⟨rfl,x3,hP,MS⟩
    ·obtain⟨out,v1,v2,hz,e1,r1,e2,r2,e3,e4,e5,e6,dJ,nrb,MW,mL⟩:=Kz;have hz' :(er==0)=aV:=by rw[beq_eq_false_iff_ne];exact hz
     have b0:((((w3.setCell ⟨fb,0,aC⟩ (aH aF er)).setCell ⟨fb,1,aC⟩ (aH aF wd)).setCell ⟨rb,1,aC⟩ (aJ aC 0 0)).setCell ⟨rb,2,aC⟩ (aJ aC 0 0)).cell? ⟨w.heap.size,0,aC⟩=aE (aI ⟨#[]⟩):=aZ dJ rfl;have b1:((((w3.setCell ⟨fb,0,aC⟩ (aH aF er)).setCell ⟨fb,1,aC⟩ (aH aF wd)).setCell ⟨rb,1,aC⟩ (aJ aC 0 0)).setCell ⟨rb,2,aC⟩ (aJ aC 0 0)).cell? ⟨w.heap.size,1,aC⟩=aE (aH aF 0):=aZ dJ rfl;have b2:((((w3.setCell ⟨fb,0,aC⟩ (aH aF er)).setCell ⟨fb,1,aC⟩ (aH aF wd)).setCell ⟨rb,1,aC⟩ (aJ aC 0 0)).setCell ⟨rb,2,aC⟩ (aJ aC 0 0)).cell? ⟨w.heap.size,2,aC⟩=aE (aH aF 0):=aZ dJ rfl;have y0:((((w3.setCell ⟨fb,0,aC⟩ (aH aF er)).setCell ⟨fb,1,aC⟩ (aH aF wd)).setCell ⟨rb,1,aC⟩ (aJ aC 0 0)).setCell ⟨rb,2,aC⟩ (aJ aC 0 0)).frozen? ⟨w.heap.size,0,aC⟩=aV:=bG 0 dJ;have y1:((((w3.setCell ⟨fb,0,aC⟩ (aH aF er)).setCell ⟨fb,1,aC⟩ (aH aF wd)).setCell ⟨rb,1,aC⟩ (aJ aC 0 0)).setCell ⟨rb,2,aC⟩ (aJ aC 0 0)).frozen? ⟨w.heap.size,1,aC⟩=aV:=bG 1 dJ;have y2:((((w3.setCell ⟨fb,0,aC⟩ (aH aF er)).setCell ⟨fb,1,aC⟩ (aH aF wd)).setCell ⟨rb,1,aC⟩ (aJ aC 0 0)).setCell ⟨rb,2,aC⟩ (aJ aC 0 0)).frozen? ⟨w.heap.size,2,aC⟩=aV:=bG 2 dJ;have HP:=bE (bK dJ mL);clear dJ mL hz;go_upto_region 15 with (fail)
     generalize((((w3.setCell ⟨fb,0,aC⟩ (aH aF er)).setCell ⟨fb,1,aC⟩ (aH aF wd)).setCell ⟨rb,1,aC⟩ (aJ aC 0 0)).setCell ⟨rb,2,aC⟩ (aJ aC 0 0))=w9 at*;go_region_held3 (λw' =>w'.cell? ⟨rb,3,aC⟩=aE (aI out)/\w'.cell? ⟨fb,0,aC⟩=aE (aH aF er)/\w'.cell? ⟨fb,1,aC⟩=aE (aH aF wd)) (first|exact⟨e4,e5,e6⟩|exact(by assumption)|exact⟨cQ (cQ (cQ e4 nrb) nrb) nrb,cQ (cQ (cQ e5 MW) MW) MW,cQ (cQ (cQ e6 MW) MW) MW⟩|go_keep) (fail)
     go_wp2;have eR:=bV (bV (bV ((aN HP).1) 0 (aI out)) 1 (aH aF er)) 2 (aH aF wd);have z0:=aZ (j:=0) eR rfl;have z1:=aZ (j:=1) eR rfl;have z2:=aZ (j:=2) eR rfl;exact bodyPost_ret (v:=bM #[aI out,aH aF er,aH aF wd]) (by simp[results,results33,go_sem,z0,z1,z2]) rfl ⟨out,er,wd,rfl,(aN HP).2 _ (Ql _ _ _).drew⟩
    ·have HP:=bE (bK hP MS);clear hP MS;go_wp2;exact aN HP
end
end Go.Proofs.YtgnlokmeohffaaaGreatDoor
