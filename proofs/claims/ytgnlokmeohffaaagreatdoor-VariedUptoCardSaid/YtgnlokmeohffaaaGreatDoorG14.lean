/- Parts of the proof: see the last text. -/
import Derived.ChangeSlices
import Derived.Test.YtgnlokmeohffaaaGreatDoorRows
import Derived.Deep.Slices
import Derived.ChangeSame
import Derived.Test.YtgnlokmeohffaaaGreatDoorG13
namespace Go.Proofs.YtgnlokmeohffaaaGreatDoor
set_option maxRecDepth 100000
set_option maxHeartbeats 6400000
open Option renaming none → aC, some → aE
open Go renaming IntKind.i64 → aF, Value → aG, Value.int → aH, Value.string → aI, Value.slice → aJ, Value.pointer → aK, Ending.returned → aM, Obj.cells → aU, World → aY, Value.tuple → bC, Value.bool → bB, Calls → bH, Value.agg → bM, World.grownBy_alloc → bU
open Go.Proofs.Tryz renaming prog → aQ
open Bool renaming false → aV, true → aX
open Go.RowKit renaming Below → bA, Below.refl → bF
open Nat renaming le_refl → bD, zero_le → bZ, le_trans → cF, zero_add → dC, lt_of_lt_of_le → eC
open List renaming getElem?_eq_some_iff → bI, getElem?_eq_getElem → bL, length_append → bN, getElem?_append_right → bP, getElem?_append_left → bT, mem_of_getElem? → cG, getElem?_map → cI, length_cons → cX, mem_singleton → dE, take_succ_eq_append_getElem → dF, length_map → dO, take_of_length_le → eB
open And renaming intro → bK
open Go.Proofs.Tryz
open Go.RowKit
section
attribute [local go_sem ↓] Go.wp_at_zero Go.wp_at_succ
def X0 (w:aY) (T:TypeId) (s:aG):Prop:=s=aJ aC 0 0\/∃g n c cur,s=aJ (aE ⟨g,0,aC⟩) n c/\w.heap[g]?=aE (aU cur T)/\n<=cur.size/\n<=100
def Wh (w:aY) (z:aG) (s:aG) (i:Nat):Prop:=∀g n c,s=aJ (aE ⟨g,0,aC⟩) n c->∀t,t<i->t<n->w.cell? ⟨g,t,aC⟩=aE z
variable {w:aY}{u:aG}{b j:Nat}
theorem RN {T:TypeId}{s:aG}(h:X0 w T s):X0 (w.setCell ⟨b,j,aC⟩ u) T s:=by
 rcases h with h|⟨g,n,c,cur,h1,h2,h3,h4⟩
 ·exact .inl h
 ·by_cases e:g=b
  ·subst e;exact .inr ⟨g,n,c,_,h1,bV h2 j u,by simpa using h3,h4⟩
  ·exact .inr ⟨g,n,c,cur,h1,(bA.heap_setCell _ _ _ _ e).trans h2,h3,h4⟩
theorem Fb {b' j' :Nat}{z:aG}(h:w.cell? ⟨b,j,aC⟩=aE z):(w.setCell ⟨b',j',aC⟩ z).cell? ⟨b,j,aC⟩=aE z:=by
 by_cases e:(⟨b',j',aC⟩:Addr)=⟨b,j,aC⟩
 ·rw[e];exact aY.cell?_setCell_same _ _ _ h
 ·rw[aY.cell?_setCell_other _ _ _ _ e];exact h
variable {i:Nat}
theorem LH {z s:aG}(h:Wh w z s i):Wh (w.setCell ⟨b,j,aC⟩ z) z s i:=λg n c e t h1 h2=>Fb (h g n c e t h1 h2)
variable {g n:Nat}
theorem V7 {z:aG}{c:Nat}(h:Wh w z (aJ (aE ⟨g,0,aC⟩) n c) i)(hc:w.cell? ⟨g,i,aC⟩=aE u):Wh (w.setCell ⟨g,i,aC⟩ z) z (aJ (aE ⟨g,0,aC⟩) n c) (i+1):=λg2 n2 c2 e t h1 h2=>by
 injection e with e1 e2 e3;injection e1 with e1;injection e1 with e1 _;subst e1;subst e2;by_cases ht:t=i
 ·subst ht;exact aY.cell?_setCell_same _ _ _ hc
 ·exact Fb (h g n c rfl t (by omega) h2)
theorem Qh {T:TypeId}{s:aG}(h:X0 w T s)(o:Obj):X0 (w.alloc o) T s:=by
 rcases h with h|⟨g,n,c,cur,h1,h2,h3,h4⟩
 ·exact .inl h
 ·exact .inr ⟨g,n,c,cur,h1,(bA.heap_alloc w o g (cC h2)).trans h2,h3,h4⟩
variable {B:Nat}{v:aG}{xs:List aG}
theorem yI {T:Nat}(h:w.ownsRow B T 1 v n xs)(hn:n<=100):X0 w T v:=by
 rcases h.2 with ⟨h1,_⟩|⟨g,cap,cur,h1,_,hg,hle,_,hs,_⟩
 ·exact .inl h1
 ·exact .inr ⟨g,n,cap,cur,h1,hg,by omega,hn⟩
variable {w1 w3:aY}
theorem As {T n1 g1 c1:Nat}{ys:List aG}(o1:w1.ownsRow B T 1 v n xs)(p1:w1.ownsRow B T 1 (aJ (aE ⟨g1,0,aC⟩) n1 c1) n1 ys)(hg:w1.grownBy w3 v.ownBlock)(o3:w3.ownsRow B T 1 v n xs)(hn:n1<=100):X0 w3 T (aJ (aE ⟨g1,0,aC⟩) n1 c1):=by
 obtain⟨cur1,GQ⟩:=cJ p1 (k:=g1) rfl;rcases p1.2 with ⟨h1,_⟩|⟨g,cap,cur,h1,_,Vd,hle,_,hs,_⟩
 ·cases h1
 ·have Og:g=g1/\cap=c1:=by
   injection h1 with a1 _ a3;injection a1 with a1;injection a1 with a1 _;exact⟨a1.symm,a3.symm⟩
  obtain⟨rfl,rfl⟩:=Og;by_cases e:v.ownBlock=aE g
  ·rcases o1.2 with ⟨h2,_⟩|⟨g2,xO,ND,h2,_,Jw,_,_,Vg,_⟩
   ·rw[h2] at e;simp[aG.ownBlock] at e
   ·rcases o3.2 with ⟨h3,_⟩|⟨g4,DC,cur4,h4,_,MU,_,_,hs4,_⟩
    ·rw[h3] at e;simp[aG.ownBlock] at e
    ·have e2:g2=g:=by rw[h2] at e;simpa[aG.ownBlock] using e
     have e4:g4=g:=by rw[h4] at e;simpa[aG.ownBlock] using e
     subst e2;subst e4;have ec:DC=xO:=by
      rw[h2] at h4;injection h4 with _ _ h4;exact h4.symm
     rw[Vd] at Jw;injection Jw with Jw;injection Jw with Jw _ _;subst Jw;exact .inr ⟨_,n1,cap,cur4,rfl,MU,by omega,hn⟩
  ·exact .inr ⟨g,n1,cap,cur,rfl,(hg.block g (cC Vd) λx=>e x.symm).trans Vd,by omega,hn⟩
variable {w2:aY}
theorem nN {r:Option Nat}(h1:w1.grownBy w2 r)(h2:w2.grownBy w3 r):w1.grownBy w3 r:=⟨h2.os.trans h1.os,h2.tape.trans h1.tape,h2.output.trans h1.output,cF h1.size h2.size,λk hk hn=>(h2.block k (eC hk h1.size) hn).trans (h1.block k hk hn)⟩
theorem rU (w:aY)(o:Obj)(r:Option Nat):w.grownBy (w.alloc o) r:=bU w o r
variable {e z k:Nat}
theorem Dy (h:w.ownsRow B e z v n xs)(hk:v.ownBlock=aE k):k<w.heap.size:=by
 obtain⟨cur,hc⟩:=cJ h hk;exact cC hc
structure Er (w wr:aY) (T TS:TypeId) (z:aG) (vb:Option Nat) (h:Nat) (S0 S1 S2 S3:aG) (k i:Nat):Prop where
 hb:wr.heap[h]?=aE (aU #[S0,S1,S2,S3] TS)
 sl:∀(j:Nat) (s:aG),[S0,S1,S2,S3][j]?=aE s->X0 wr T s/\(j<k->∀t,Wh wr z s t)
 cur:∀s:aG,[S0,S1,S2,S3][k]?=aE s->Wh wr z s i
 mv:Mv (λx=>vb=aE x) w wr
 ow:∀(j:Nat) (s:aG) (g n c:Nat),[S0,S1,S2,S3][j]?=aE s->s=aJ (aE ⟨g,0,aC⟩) n c->vb=aE g\/w.heap.size<=g
theorem Er.step {wr:aY}{T TS:TypeId}{z:aG}{vb:Option Nat}{h:Nat}{S0 S1 S2 S3:aG}{c:Nat}(hT:T≠TS)(hI:Er w wr T TS z vb h S0 S1 S2 S3 k i)(hs:[S0,S1,S2,S3][k]?=aE (aJ (aE ⟨g,0,aC⟩) n c))(hi:i<n):Er w (wr.setCell ⟨g,i,aC⟩ z) T TS z vb h S0 S1 S2 S3 k (i+1)/\(∃u,wr.cell? ⟨g,i,aC⟩=aE u)/\wr.frozen? ⟨g,i,aC⟩=aV:=by
 obtain⟨xJ,_⟩:=hI.sl k _ hs;rcases xJ with e|⟨g2,n2,c2,cur,e,hg,hle,_⟩
 ·cases e
 ·injection e with e1 e2 _;injection e1 with e1;injection e1 with e1 _;subst e1;subst e2;have hu:wr.cell? ⟨g,i,aC⟩=aE cur[i]:=by
   rw[cell_of_row wr g i cur T (0,0) hg,Array.getElem?_eq_getElem (by omega)]
  have hgh:h≠g:=λe=>by
   have:=hI.hb;rw[e] at this;exact hT (cM hg this)
  refine⟨⟨(bA.heap_setCell _ _ _ _ hgh).trans hI.hb,λj s hj=>⟨RN (hI.sl j s hj).1,λhk t=>LH ((hI.sl j s hj).2 hk t)⟩,λs Vg=>?_,hI.mv.setCell (p:=⟨g,i,aC⟩) (hI.ow k _ g n c hs rfl) z,hI.ow⟩,⟨_,hu⟩,bG i hg⟩;rw[hs] at Vg;injection Vg with Vg;subst Vg;exact V7 (hI.cur _ hs) hu
theorem Er.next {wr:aY}{T TS:TypeId}{z:aG}{vb:Option Nat}{h:Nat}{S0 S1 S2 S3 s:aG}(hI:Er w wr T TS z vb h S0 S1 S2 S3 k i)(hs:[S0,S1,S2,S3][k]?=aE s)(hi:s=aJ aC 0 0\/∃g n c,s=aJ (aE ⟨g,0,aC⟩) n c/\n<=i):Er w wr T TS z vb h S0 S1 S2 S3 (k+1) 0:=by
 refine⟨hI.hb,λj s' hj=>⟨(hI.sl j s' hj).1,λhk t=>?_⟩,λs' _ g n c _ t ht _=>by omega,hI.mv,hI.ow⟩;by_cases e:j=k
 ·subst e;rw[hs] at hj;injection hj with hj;subst hj;intro g n c e2 t2 _ h2;rcases hi with e3|⟨g3,n3,c3,e3,hn⟩
  ·rw[e3] at e2;cases e2
  ·have e4:=e3;rw[e2] at e4;injection e4 with _ e5 _;subst e5;exact hI.cur _ hs g n c e2 t2 (by omega) h2
 ·exact(hI.sl j s' hj).2 (by omega) t
def Od (w:aY) (T TS:TypeId) (k:Nat):Prop:=∃cs t fr,w.heap[k]?=aE (aU cs t fr)/\(t=T\/t=TS)
def qZ (w:aY) (TS:TypeId) (z v:aG) (K:Nat->Prop):Prop:=∃h s0 s1 s2 s3,v=aJ (aE ⟨h,0,aC⟩) 4 4/\K h/\w.heap[h]?=aE (aU #[s0,s1,s2,s3] TS)/\∀s∈[s0,s1,s2,s3],s=aJ aC 0 0\/∃g n c,s=aJ (aE ⟨g,0,aC⟩) n c/\n<=100/\K g/\∀j,j<n->w.cell? ⟨g,j,aC⟩=aE z
theorem Uo:∃i,(aQ).info? 82=aE i/\i.zero=aE (aJ aC 0 0)/\i.size=1/\i.bytes=24:=nE (by kernel_rfl)
theorem Pe:∃i,(aQ).info? 84=aE i/\i.zero=aE (aJ aC 0 0)/\i.size=1/\i.bytes=24:=nE (by kernel_rfl)
theorem PP:∃i,(aQ).info? 9=aE i/\i.zero=aE (aI ⟨#[]⟩)/\i.size=1/\i.bytes=16:=nE (by kernel_rfl)
theorem NV:∃i,(aQ).info? 3=aE i/\i.zero=aE (aH aF 0)/\i.size=1/\i.bytes=8:=nE (by kernel_rfl)
theorem RX (w:aY)(yb B:Nat)(aB:Option Addr)(na cB:Nat)(ls:List aG)(av:Option Addr)(n cv:Nat)(xs:List aG)(cs:Array aG)(zz:Int)(hzz:zz=-7070-(na:Int))(Kw:w.heap[yb]?=aE (aU cs 52))(NC:cs[1]?=aE (aJ aB na cB))(fL:w.ownsRow B 82 1 (aJ aB na cB) na ls)(hl:w.ownsRow B 3 1 (aJ av n cv) n xs)(hn:n<=50)(UL:na<=10000000)(hBw:B<=w.heap.size):
 bH aQ 35 #[aK (aE ⟨yb,1,aC⟩),aJ av n cv] w λe w' =>e=aM (bC #[])/\∃Ci nv,w'.heap[yb]?=aE (aU (cs.setIfInBounds 1 Ci) 52)/\w'.ownsRow B 82 1 Ci (na+1) (ls++[nv])/\qZ w' 26 (aH aF zz) nv (λk=>(w.heap.size<=k\/(aJ av n cv).ownBlock=aE k)/\Od w' 3 26 k)/\(∀k,Ci.ownBlock=aE k->(aJ aB na cB).ownBlock=aE k\/w.heap.size<=k)/\Mv (λk=>k=yb\/(aJ aB na cB).ownBlock=aE k\/(aJ av n cv).ownBlock=aE k) w w' :=by
 obtain⟨iS,hi,hz,hs,jP⟩:=NV;obtain⟨iN,hiN,hzN,hsN,hbyN⟩:=Uo;have cy:w.cell? ⟨yb,1,aC⟩=aE (aJ aB na cB):=aZ Kw NC;have Q5:=bE hBw;have OL:=bE hl;have HY:=bE (bK Kw (bK NC (bK fL hzz)));have iz:aF.wrap (-7070-(na:Int))=zz:=by rw[hzz,IntKind.wrap_i64];omega
 have HNY:=bE (show(aJ av n cv).ownBlock≠aE yb from λe=>by
  obtain⟨_,h'⟩:=cJ hl e;exact absurd (cM Kw h') (by decide))
 have YZ:=bE (show ∀k,(aJ aB na cB).ownBlock=aE k->(aJ av n cv).ownBlock≠aE k from λk e1 e2=>by
  obtain⟨_,h'⟩:=cJ hl e2;obtain⟨_,TF⟩:=cJ fL e1;exact absurd (cM TF h') (by decide))
 have nY:aE yb≠(aJ aB na cB).ownBlock:=λe=>by
  obtain⟨_,h'⟩:=cJ fL e.symm;exact absurd (cM Kw h') (by decide)
 have HBB:=bE hBw;clear hl Kw NC fL hzz hBw;go_enter func35,ntmps35;go_wp2_with (
  at_builtin
  first
  |(refine lJ _ (by rfl) (.tmp 15) (.tmp 17) 26 (by rfl) B 3 iS (aH aF 0) 8 underlying26 hi hz hs jP rfl (aJ av n cv) n xs (by rfl) (by exact(aN OL).alloc _) ⟨w.heap.size,0,aC⟩ 1 1 [aH aF zz] (by rfl) rfl (aY.news_of_block (heap_alloc_new w _)) (λu hu=>by simp at hu;subst hu;rfl) (by decide) (by unfold maxLen;omega) (by omega) (by have:=aN Q5;simp;omega) ?_
    intro g1 c1 w1 oo1 pp1 gg1 aa1;have O1:=bE oo1;have PP1:=bE pp1;have GG1:=bE (nN (rU w _ _) gg1);have uG:=bE (show B<=w1.heap.size from cF (aN Q5) (aN GG1).size);have AA1:=bE aa1;clear oo1 pp1 gg1 aa1)
  |(refine lJ _ (by rfl) (.tmp 19) (.tmp 22) 26 (by rfl) B 3 iS (aH aF 0) 8 underlying26 hi hz hs jP rfl (aJ av n cv) n xs (by rfl) (by exact(aN O1).alloc _) ⟨w1.heap.size,0,aC⟩ 2 2 [aH aF zz,aH aF zz] (by rfl) rfl (aY.news_of_block (heap_alloc_new w1 _)) (λu hu=>by simp at hu;subst hu;rfl) (by decide) (by unfold maxLen;omega) (by omega) (by have:=aN uG;simp;omega) ?_
    intro g2 c2 w2 oo2 pp2 gg2 aa2;have O2:=bE oo2;have PP2:=bE pp2;have GG2:=bE (nN (rU w1 _ _) gg2);have Bv:=bE (show B<=w2.heap.size from cF (aN uG) (aN GG2).size);have AA2:=bE aa2;clear oo2 pp2 gg2 aa2)
  |(refine lJ _ (by rfl) (.tmp 24) (.tmp 28) 26 (by rfl) B 3 iS (aH aF 0) 8 underlying26 hi hz hs jP rfl (aJ av n cv) n xs (by rfl) (by exact(aN O2).alloc _) ⟨w2.heap.size,0,aC⟩ 3 3 [aH aF zz,aH aF zz,aH aF zz] (by rfl) rfl (aY.news_of_block (heap_alloc_new w2 _)) (λu hu=>by simp at hu;subst hu;rfl) (by decide) (by unfold maxLen;omega) (by omega) (by have:=aN Bv;simp;omega) ?_
    intro g3 c3 w3 oo3 pp3 gg3 aa3;have O3:=bE oo3;have PP3:=bE pp3;have GG3:=bE (nN (rU w2 _ _) gg3);have Es:=bE (show B<=w3.heap.size from cF (aN Bv) (aN GG3).size);have AA3:=bE aa3;clear oo3 pp3 gg3 aa3))
 have hZ:=aN Es;have zX:=aN GG1;have Jw:=aN GG2;have R9:=aN GG3;have DZ:=nN Jw R9;have EL:=nN zX DZ;have hI0:Er w (w3.alloc (aU #[aJ av n cv,aJ (aE ⟨g1,0,aC⟩) (n+1) c1,aJ (aE ⟨g2,0,aC⟩) (n+2) c2,aJ (aE ⟨g3,0,aC⟩) (n+3) c3] 26)) 3 26 (aH aF zz) (aJ av n cv).ownBlock w3.heap.size (aJ av n cv) (aJ (aE ⟨g1,0,aC⟩) (n+1) c1) (aJ (aE ⟨g2,0,aC⟩) (n+2) c2) (aJ (aE ⟨g3,0,aC⟩) (n+3) c3) 0 0:=by
  have k0:=yI (aN O3) (by omega);have k1:=As (aN O1) (aN PP1) DZ (aN O3) (by omega);have k2:=As (aN O2) (aN PP2) R9 (aN O3) (by omega);have k3:=yI (aN PP3) (by omega);refine⟨heap_alloc_new w3 _,λj s hj=>⟨Qh ?_ _,λh=>by omega⟩,λs _ g n c _ t ht _=>by omega,(Mv.grown (T:=λx=>(aJ av n cv).ownBlock=aE x) (Mv.refl _ _) EL λk e=>.inl e).alloc _,λj s g m c hj hs=>?_⟩
  ·match j,hj with
   |0,hj=>
    have:aJ av n cv=s:=by simpa using hj
    rw[<-this];exact k0
   |1,hj=>
    have:aJ (aE ⟨g1,0,aC⟩) (n+1) c1=s:=by simpa using hj
    rw[<-this];exact k1
   |2,hj=>
    have:aJ (aE ⟨g2,0,aC⟩) (n+2) c2=s:=by simpa using hj
    rw[<-this];exact k2
   |3,hj=>
    have:aJ (aE ⟨g3,0,aC⟩) (n+3) c3=s:=by simpa using hj
    rw[<-this];exact k3
   |j+4,hj=>simp at hj
  ·have fin:∀(W:aY) (g' :Nat),w.heap.size<=W.heap.size->((aJ av n cv).ownBlock=aE g' \/W.heap.size<=g')->(aJ av n cv).ownBlock=aE g' \/w.heap.size<=g' :=λW g' hW h=>by
    rcases h with h|h
    ·exact .inl h
    ·exact .inr (by omega)
   have q1:=zX.size;have q2:=Jw.size
   match j,hj with
   |0,hj=>
    have:aJ av n cv=s:=by simpa using hj
    rw[<-this] at hs
    left
    rw[hs];rfl
   |1,hj=>
    have:aJ (aE ⟨g1,0,aC⟩) (n+1) c1=s:=by simpa using hj
    rw[<-this] at hs;injection hs with e1 _ _;injection e1 with e1;injection e1 with e1 _;rw[<-e1];exact fin _ g1 (by simp) (aN AA1)
   |2,hj=>
    have:aJ (aE ⟨g2,0,aC⟩) (n+2) c2=s:=by simpa using hj
    rw[<-this] at hs;injection hs with e1 _ _;injection e1 with e1;injection e1 with e1 _;rw[<-e1];exact fin _ g2 (by simp;omega) (aN AA2)
   |3,hj=>
    have:aJ (aE ⟨g3,0,aC⟩) (n+3) c3=s:=by simpa using hj
    rw[<-this] at hs;injection hs with e1 _ _;injection e1 with e1;injection e1 with e1 _;rw[<-e1];exact fin _ g3 (by simp;omega) (aN AA3)
   |j+4,hj=>simp at hj
 have HI0:=bE hI0;have hw3:w.heap.size<=w3.heap.size:=EL.size;have Hw3:=bE hw3;clear hI0 zX Jw R9 DZ EL hZ hw3 O1 O2 O3 PP1 PP2 PP3 GG1 GG2 GG3 AA1 AA2 AA3 Q5 uG Bv Es OL cy;generalize w3.heap.size=hh at*;generalize bz:aJ av n cv=S0 at*;generalize M7:aJ (aE ⟨g1,0,aC⟩) (n+1) c1=S1 at*;generalize Gy:aJ (aE ⟨g2,0,aC⟩) (n+2) c2=S2 at*;generalize VK:aJ (aE ⟨g3,0,aC⟩) (n+3) c3=S3 at*;have HS0:=bE bz;clear bz M7 Gy VK
 go_loopw [6] (λkv wr=>∃k:Nat,k<=4/\kv=aH aF k/\Er w wr 3 26 (aH aF zz) S0.ownBlock hh S0 S1 S2 S3 k 0) (λkv _=>match kv with|aH _ k=>4-k.toNat|_=>0)
 case atStart=>exact⟨0,by omega,rfl,aN HI0⟩
 case round=>
  obtain⟨k,hk,rfl,hI⟩:=hrel;clear HI0;by_cases eQ:k<4
  ·obtain⟨s,TR⟩:∃s,[S0,S1,S2,S3][k]?=aE s:=⟨_,bL (by simpa using eQ)⟩
   have k1:(k:Int)<4:=by omega
   have k0:(0:Int)<=(k:Int):=by omega
   have k2:=wi ((k:Int)+1);have ck:∀{W:aY} {i:Nat},Er w W 3 26 (aH aF zz) S0.ownBlock hh S0 S1 S2 S3 k i->W.cell? ⟨hh,k,aC⟩=aE s:=λhx=>by
    have:(#[S0,S1,S2,S3]:Array aG)[k]?=aE s:=by rw[<-Array.getElem?_toList];exact TR
    exact aZ hx.hb this
   have CK:=bE (λ(W:aY) (i:Nat) (hx:Er w W 3 26 (aH aF zz) S0.ownBlock hh S0 S1 S2 S3 k i)=>ck hx);have xJ:=(hI.sl k s TR).1;have HS:=bE TR;rcases xJ with rfl|⟨g,m,c,cur,rfl,_,_,hm⟩
   ·have HI:=bE hI;have cc:=ck hI;clear hI TR ck;go_wp2
    go_loopw [7] (λiv wi=>iv=aH aF 0/\wi=wr) (λ_ _=>0)
    case atStart=>exact⟨rfl,rfl⟩
    case round=>
     obtain⟨rfl,rfl⟩:=hrel;go_wp2;refine⟨⟨k+1,by omega,by simp,(aN HI).next (aN HS) (.inl rfl)⟩,?_⟩;show 4-((k:Int)+1).toNat<4-(k:Int).toNat;omega
   ·have HI:=bE hI;clear hI TR ck;go_wp2
    go_loopw [7] (λiv wi=>∃i:Nat,i<=m/\iv=aH aF i/\Er w wi 3 26 (aH aF zz) S0.ownBlock hh S0 S1 S2 S3 k i) (λiv _=>match iv with|aH _ i=>m-i.toNat|_=>0)
    case atStart=>exact⟨0,by omega,rfl,aN HI⟩
    case round=>
     obtain⟨i,SD,rfl,hI⟩:=hrel;have cc:=aN CK _ _ hI;clear HI;by_cases lT:i<m
     ·obtain⟨ek,⟨u,hu⟩,hf⟩:=hI.step (by decide) (aN HS) lT;have UP:=bE ek;have i1:(i:Int)<(m:Int):=by omega
      have i0:(0:Int)<=(i:Int):=by omega
      have i2:=wi ((i:Int)+1);clear hI ek;go_wp2;refine⟨⟨i+1,by omega,by simp,aN UP⟩,?_⟩;show m-((i:Int)+1).toNat<m-(i:Int).toNat;omega
     ·have HI:=bE hI;have i1:¬(i:Int)<(m:Int):=by omega
      clear hI;go_wp2;refine⟨⟨k+1,by omega,by simp,(aN HI).next (aN HS) (.inr ⟨g,m,c,rfl,by omega⟩)⟩,?_⟩;show 4-((k:Int)+1).toNat<4-(k:Int).toNat;omega
  ·have k1:¬(k:Int)<4:=by omega
   obtain rfl:k=4:=by omega
   have HI:=bE hI;obtain⟨Kw,NC,fL,_⟩:=aN HY;have m6:wr.heap[yb]?=aE (aU cs 52):=(hI.mv.block yb (cC Kw) (aN HNY)).trans Kw;have cy4:wr.cell? ⟨yb,1,aC⟩=aE (aJ aB na cB):=aZ m6 NC;have fy4:=bG 1 m6;have OB:=bE (show wr.ownsRow B 82 1 (aJ aB na cB) na ls from cV fL λk e=>hI.mv.block k (Dy fL e) (aN YZ k e));have HBr:=bE (show B<=wr.heap.size from cF (aN HBB) hI.mv.size);have HYB:=bE m6;clear hI Kw NC fL m6 YZ HNY;go_wp2_with (
    at_builtin
    refine wpList_append_lies _ (by rfl) (.tmp 57) (.tmp 59) 47 (by rfl) B 82 iN (aJ aC 0 0) 1 24 underlying47 hiN hzN hsN hbyN rfl (by decide) (aJ aB na cB) na ls (by rfl) (by exact(aN OB).alloc _) ⟨wr.heap.size,0,aC⟩ 1 1 [aJ (aE ⟨hh,0,aC⟩) 4 4] (by rfl) rfl (aY.news_of_block (heap_alloc_new wr _)) (λu hu=>by simp at hu;subst hu;rfl) (by decide) (by unfold maxLen;omega) (by omega) (by have:=aN HBr;simp;omega) _ rfl ?_;intro g4 DC w4 M5 nP UH hlt4;have nP:(wr.alloc (aU #[aJ (aE ⟨hh,0,aC⟩) 4 4] 82)).grownBy w4 (aJ aB na cB).ownBlock:=⟨nP.os,nP.tape,nP.output,nP.size,nP.block⟩
    have e1:(wr.alloc (aU #[aJ (aE ⟨hh,0,aC⟩) 4 4] 82)).cell? ⟨yb,1,aC⟩=aE (aJ aB na cB):=bJ cy4 _;have e2:(wr.alloc (aU #[aJ (aE ⟨hh,0,aC⟩) 4 4] 82)).frozen? ⟨yb,1,aC⟩=aV:=cY (bU wr _ aC) cy4 fy4 (by simp);have e5:=nP.cell e1 nY;have f5:=cY nP e1 e2 nY;have G4:=bE nP;have O4:=bE M5;have A4:=bE UH;clear nP M5 UH e1 e2)
   go_end0;have hI:=aN HI;have MU:=aN G4;have Kw:=aN HYB;have Lz:bA wr.heap.size wr (wr.alloc (aU #[aJ (aE ⟨hh,0,aC⟩) 4 4] 82)):=(bF _ _).alloc (bD _) _;have hsA:=Lz.size;have xN:∀k,k<wr.heap.size->(aJ aB na cB).ownBlock≠aE k->w4.heap[k]?=wr.heap[k]?:=λk hk hn=>(MU.block k (by omega) λe=>hn e.symm).trans (Lz.block k hk)
   have TY:w4.heap[yb]?=aE (aU cs 52):=(xN yb (cC Kw) λe=>nY e.symm).trans Kw;have typB:∀{k:Nat},(aJ aB na cB).ownBlock=aE k->∃c2,wr.heap[k]?=aE (aU c2 82):=λe=>cJ (aN OB) e
   have pQ:∀{k:Nat} {c2:Array aG} {t:TypeId},wr.heap[k]?=aE (aU c2 t)->t≠82->t≠52->(w4.setCell ⟨yb,1,aC⟩ (aJ (aE ⟨g4,0,aC⟩) (na+1) DC)).heap[k]?=wr.heap[k]?:=λhk t1 t2=>(bA.heap_setCell _ _ _ _ λe=>by
    rw[e] at hk;exact t2 (cM hk Kw)).trans (xN _ (cC hk) λe=>by
    obtain⟨_,h'⟩:=typB e;exact t1 (cM hk h'))
   have hS:=aN HS0;refine⟨rfl,aJ (aE ⟨g4,0,aC⟩) (na+1) DC,bV TY 1 _,aJ (aE ⟨hh,0,aC⟩) 4 4,cV (aN O4) λk e=>bA.heap_setCell _ _ _ _ λx=>?_,?_,?_,?_⟩
   ·obtain⟨_,h'⟩:=cJ (aN O4) e;rw[x] at h';exact absurd (cM TY h') (by decide)
   ·refine⟨hh,S0,S1,S2,S3,rfl,⟨.inl (aN Hw3),_,_,_,(pQ hI.hb (by decide) (by decide)).trans hI.hb,.inr rfl⟩,(pQ hI.hb (by decide) (by decide)).trans hI.hb,λs hs=>?_⟩;obtain⟨j,hj⟩:=List.mem_iff_getElem?.1 hs;have hj4:=(bI.1 hj).1;simp at hj4;obtain⟨xJ,zZ⟩:=hI.sl j s hj;have zZ:=zZ (by omega);rcases xJ with e|⟨g,m,c,cur,e,Vd,_,hm⟩
    ·exact .inl e
    ·refine .inr ⟨g,m,c,e,hm,⟨?_,_,_,_,(pQ Vd (by decide) (by decide)).trans Vd,.inl rfl⟩,λt ht=>?_⟩
     ·rcases hI.ow j s g m c hj e with x|x
      ·right
       rw[hS];exact x
      ·exact .inl x
     ·rw[aY.cell?_of_block (w:=wr) (pQ Vd (by decide) (by decide))];have q:=zZ (t+1) g m c e t (by omega) ht;rw[(aN HY).2.2.2] at q;exact q
   ·intro k e;rcases aN A4 with x|x
    ·left
     rw[x];exact e
    ·right
     have:g4=k:=by simpa[aG.ownBlock] using e
     have:=hI.mv.size;have hz4:(wr.alloc (aU #[aJ (aE ⟨hh,0,aC⟩) 4 4] 82)).heap.size=wr.heap.size+1:=by simp
     omega
   ·have h1:Mv (λk=>k=yb\/(aJ aB na cB).ownBlock=aE k\/S0.ownBlock=aE k) w wr:=hI.mv.weaken λk hk=>.inr (.inr hk)
    have h2:=(h1.alloc (aU #[aJ (aE ⟨hh,0,aC⟩) 4 4] 82)).grown MU λk e=>.inl (.inr (.inl e))
    rw[hS];exact h2.setCell (p:=⟨yb,1,aC⟩) (.inl (.inl rfl)) _
theorem IV (w:aY)(yb B:Nat)(aB:Option Addr)(na cB:Nat)(ls:List aG)(av:Option Addr)(n cv:Nat)(xs:List aG)(cs:Array aG)(zz:ByteArray)(hzz:zz=⟨(Ck na).toArray⟩)(Kw:w.heap[yb]?=aE (aU cs 52))(NC:cs[2]?=aE (aJ aB na cB))(fL:w.ownsRow B 84 1 (aJ aB na cB) na ls)(hl:w.ownsRow B 9 1 (aJ av n cv) n xs)(hn:n<=50)(UL:na<=10000000)(hBw:B<=w.heap.size):
 bH aQ 38 #[aK (aE ⟨yb,1,aC⟩),aJ av n cv] w λe w' =>e=aM (bC #[])/\∃Ci nv,w'.heap[yb]?=aE (aU (cs.setIfInBounds 2 Ci) 52)/\w'.ownsRow B 84 1 Ci (na+1) (ls++[nv])/\qZ w' 23 (aI zz) nv (λk=>(w.heap.size<=k\/(aJ av n cv).ownBlock=aE k)/\Od w' 9 23 k)/\(∀k,Ci.ownBlock=aE k->(aJ aB na cB).ownBlock=aE k\/w.heap.size<=k)/\Mv (λk=>k=yb\/(aJ aB na cB).ownBlock=aE k\/(aJ av n cv).ownBlock=aE k) w w' :=by
 obtain⟨iS,hi,hz,hs,jP⟩:=PP;obtain⟨iN,hiN,hzN,hsN,hbyN⟩:=Pe;have cy:w.cell? ⟨yb,2,aC⟩=aE (aJ aB na cB):=aZ Kw NC;have Q5:=bE hBw;have OL:=bE hl;have HY:=bE (bK Kw (bK NC (bK fL hzz)));have HM:=bE (show ∀W:aY,bH aQ 42 #[aH aF na] W λe w' =>e=aM (aI zz)/\w' =W from λW=>by rw[hzz];exact I5 na W (by omega));have HNY:=bE (show(aJ av n cv).ownBlock≠aE yb from λe=>by
  obtain⟨_,h'⟩:=cJ hl e;exact absurd (cM Kw h') (by decide))
 have YZ:=bE (show ∀k,(aJ aB na cB).ownBlock=aE k->(aJ av n cv).ownBlock≠aE k from λk e1 e2=>by
  obtain⟨_,h'⟩:=cJ hl e2;obtain⟨_,TF⟩:=cJ fL e1;exact absurd (cM TF h') (by decide))
 have nY:aE yb≠(aJ aB na cB).ownBlock:=λe=>by
  obtain⟨_,h'⟩:=cJ fL e.symm;exact absurd (cM Kw h') (by decide)
 have HBB:=bE hBw;clear hl Kw NC fL hzz hBw;go_enter func38,ntmps38;go_wp2_with fail
 refine(aN HM w).mono ?_;rintro e iF ⟨rfl,mG⟩;subst iF;go_wp2_with (
  at_builtin
  first
  |(refine lJ _ (by rfl) (.tmp 15) (.tmp 17) 23 (by rfl) B 9 iS (aI ⟨#[]⟩) 16 underlying23 hi hz hs jP rfl (aJ av n cv) n xs (by rfl) (by exact(aN OL).alloc _) ⟨w.heap.size,0,aC⟩ 1 1 [aI zz] (by rfl) rfl (aY.news_of_block (heap_alloc_new w _)) (λu hu=>by simp at hu;subst hu;rfl) (by decide) (by unfold maxLen;omega) (by omega) (by have:=aN Q5;simp;omega) ?_
    intro g1 c1 w1 oo1 pp1 gg1 aa1;have O1:=bE oo1;have PP1:=bE pp1;have GG1:=bE (nN (rU w _ _) gg1);have uG:=bE (show B<=w1.heap.size from cF (aN Q5) (aN GG1).size);have AA1:=bE aa1;clear oo1 pp1 gg1 aa1)
  |(refine lJ _ (by rfl) (.tmp 19) (.tmp 22) 23 (by rfl) B 9 iS (aI ⟨#[]⟩) 16 underlying23 hi hz hs jP rfl (aJ av n cv) n xs (by rfl) (by exact(aN O1).alloc _) ⟨w1.heap.size,0,aC⟩ 2 2 [aI zz,aI zz] (by rfl) rfl (aY.news_of_block (heap_alloc_new w1 _)) (λu hu=>by simp at hu;subst hu;rfl) (by decide) (by unfold maxLen;omega) (by omega) (by have:=aN uG;simp;omega) ?_
    intro g2 c2 w2 oo2 pp2 gg2 aa2;have O2:=bE oo2;have PP2:=bE pp2;have GG2:=bE (nN (rU w1 _ _) gg2);have Bv:=bE (show B<=w2.heap.size from cF (aN uG) (aN GG2).size);have AA2:=bE aa2;clear oo2 pp2 gg2 aa2)
  |(refine lJ _ (by rfl) (.tmp 24) (.tmp 28) 23 (by rfl) B 9 iS (aI ⟨#[]⟩) 16 underlying23 hi hz hs jP rfl (aJ av n cv) n xs (by rfl) (by exact(aN O2).alloc _) ⟨w2.heap.size,0,aC⟩ 3 3 [aI zz,aI zz,aI zz] (by rfl) rfl (aY.news_of_block (heap_alloc_new w2 _)) (λu hu=>by simp at hu;subst hu;rfl) (by decide) (by unfold maxLen;omega) (by omega) (by have:=aN Bv;simp;omega) ?_
    intro g3 c3 w3 oo3 pp3 gg3 aa3;have O3:=bE oo3;have PP3:=bE pp3;have GG3:=bE (nN (rU w2 _ _) gg3);have Es:=bE (show B<=w3.heap.size from cF (aN Bv) (aN GG3).size);have AA3:=bE aa3;clear oo3 pp3 gg3 aa3))
 have hZ:=aN Es;have zX:=aN GG1;have Jw:=aN GG2;have R9:=aN GG3;have DZ:=nN Jw R9;have EL:=nN zX DZ;have hI0:Er w (w3.alloc (aU #[aJ av n cv,aJ (aE ⟨g1,0,aC⟩) (n+1) c1,aJ (aE ⟨g2,0,aC⟩) (n+2) c2,aJ (aE ⟨g3,0,aC⟩) (n+3) c3] 23)) 9 23 (aI zz) (aJ av n cv).ownBlock w3.heap.size (aJ av n cv) (aJ (aE ⟨g1,0,aC⟩) (n+1) c1) (aJ (aE ⟨g2,0,aC⟩) (n+2) c2) (aJ (aE ⟨g3,0,aC⟩) (n+3) c3) 0 0:=by
  have k0:=yI (aN O3) (by omega);have k1:=As (aN O1) (aN PP1) DZ (aN O3) (by omega);have k2:=As (aN O2) (aN PP2) R9 (aN O3) (by omega);have k3:=yI (aN PP3) (by omega);refine⟨heap_alloc_new w3 _,λj s hj=>⟨Qh ?_ _,λh=>by omega⟩,λs _ g n c _ t ht _=>by omega,(Mv.grown (T:=λx=>(aJ av n cv).ownBlock=aE x) (Mv.refl _ _) EL λk e=>.inl e).alloc _,λj s g m c hj hs=>?_⟩
  ·match j,hj with
   |0,hj=>
    have:aJ av n cv=s:=by simpa using hj
    rw[<-this];exact k0
   |1,hj=>
    have:aJ (aE ⟨g1,0,aC⟩) (n+1) c1=s:=by simpa using hj
    rw[<-this];exact k1
   |2,hj=>
    have:aJ (aE ⟨g2,0,aC⟩) (n+2) c2=s:=by simpa using hj
    rw[<-this];exact k2
   |3,hj=>
    have:aJ (aE ⟨g3,0,aC⟩) (n+3) c3=s:=by simpa using hj
    rw[<-this];exact k3
   |j+4,hj=>simp at hj
  ·have fin:∀(W:aY) (g' :Nat),w.heap.size<=W.heap.size->((aJ av n cv).ownBlock=aE g' \/W.heap.size<=g')->(aJ av n cv).ownBlock=aE g' \/w.heap.size<=g' :=λW g' hW h=>by
    rcases h with h|h
    ·exact .inl h
    ·exact .inr (by omega)
   have q1:=zX.size;have q2:=Jw.size
   match j,hj with
   |0,hj=>
    have:aJ av n cv=s:=by simpa using hj
    rw[<-this] at hs
    left
    rw[hs];rfl
   |1,hj=>
    have:aJ (aE ⟨g1,0,aC⟩) (n+1) c1=s:=by simpa using hj
    rw[<-this] at hs;injection hs with e1 _ _;injection e1 with e1;injection e1 with e1 _;rw[<-e1];exact fin _ g1 (by simp) (aN AA1)
   |2,hj=>
    have:aJ (aE ⟨g2,0,aC⟩) (n+2) c2=s:=by simpa using hj
    rw[<-this] at hs;injection hs with e1 _ _;injection e1 with e1;injection e1 with e1 _;rw[<-e1];exact fin _ g2 (by simp;omega) (aN AA2)
   |3,hj=>
    have:aJ (aE ⟨g3,0,aC⟩) (n+3) c3=s:=by simpa using hj
    rw[<-this] at hs;injection hs with e1 _ _;injection e1 with e1;injection e1 with e1 _;rw[<-e1];exact fin _ g3 (by simp;omega) (aN AA3)
   |j+4,hj=>simp at hj
 have HI0:=bE hI0;have hw3:w.heap.size<=w3.heap.size:=EL.size;have Hw3:=bE hw3;clear hI0 zX Jw R9 DZ EL hZ hw3 O1 O2 O3 PP1 PP2 PP3 GG1 GG2 GG3 AA1 AA2 AA3 Q5 uG Bv Es OL cy HM;generalize w3.heap.size=hh at*;generalize bz:aJ av n cv=S0 at*;generalize M7:aJ (aE ⟨g1,0,aC⟩) (n+1) c1=S1 at*;generalize Gy:aJ (aE ⟨g2,0,aC⟩) (n+2) c2=S2 at*;generalize VK:aJ (aE ⟨g3,0,aC⟩) (n+3) c3=S3 at*;have HS0:=bE bz;clear bz M7 Gy VK
 go_loopw [6] (λkv wr=>∃k:Nat,k<=4/\kv=aH aF k/\Er w wr 9 23 (aI zz) S0.ownBlock hh S0 S1 S2 S3 k 0) (λkv _=>match kv with|aH _ k=>4-k.toNat|_=>0)
 case atStart=>exact⟨0,by omega,rfl,aN HI0⟩
 case round=>
  obtain⟨k,hk,rfl,hI⟩:=hrel;clear HI0;by_cases eQ:k<4
  ·obtain⟨s,TR⟩:∃s,[S0,S1,S2,S3][k]?=aE s:=⟨_,bL (by simpa using eQ)⟩
   have k1:(k:Int)<4:=by omega
   have k0:(0:Int)<=(k:Int):=by omega
   have k2:=wi ((k:Int)+1);have ck:∀{W:aY} {i:Nat},Er w W 9 23 (aI zz) S0.ownBlock hh S0 S1 S2 S3 k i->W.cell? ⟨hh,k,aC⟩=aE s:=λhx=>by
    have:(#[S0,S1,S2,S3]:Array aG)[k]?=aE s:=by rw[<-Array.getElem?_toList];exact TR
    exact aZ hx.hb this
   have CK:=bE (λ(W:aY) (i:Nat) (hx:Er w W 9 23 (aI zz) S0.ownBlock hh S0 S1 S2 S3 k i)=>ck hx);have xJ:=(hI.sl k s TR).1;have HS:=bE TR;rcases xJ with rfl|⟨g,m,c,cur,rfl,_,_,hm⟩
   ·have HI:=bE hI;have cc:=ck hI;clear hI TR ck;go_wp2
    go_loopw [7] (λiv wi=>iv=aH aF 0/\wi=wr) (λ_ _=>0)
    case atStart=>exact⟨rfl,rfl⟩
    case round=>
     obtain⟨rfl,rfl⟩:=hrel;go_wp2;refine⟨⟨k+1,by omega,by simp,(aN HI).next (aN HS) (.inl rfl)⟩,?_⟩;show 4-((k:Int)+1).toNat<4-(k:Int).toNat;omega
   ·have HI:=bE hI;clear hI TR ck;go_wp2
    go_loopw [7] (λiv wi=>∃i:Nat,i<=m/\iv=aH aF i/\Er w wi 9 23 (aI zz) S0.ownBlock hh S0 S1 S2 S3 k i) (λiv _=>match iv with|aH _ i=>m-i.toNat|_=>0)
    case atStart=>exact⟨0,by omega,rfl,aN HI⟩
    case round=>
     obtain⟨i,SD,rfl,hI⟩:=hrel;have cc:=aN CK _ _ hI;clear HI;by_cases lT:i<m
     ·obtain⟨ek,⟨u,hu⟩,hf⟩:=hI.step (by decide) (aN HS) lT;have UP:=bE ek;have i1:(i:Int)<(m:Int):=by omega
      have i0:(0:Int)<=(i:Int):=by omega
      have i2:=wi ((i:Int)+1);clear hI ek;go_wp2;refine⟨⟨i+1,by omega,by simp,aN UP⟩,?_⟩;show m-((i:Int)+1).toNat<m-(i:Int).toNat;omega
     ·have HI:=bE hI;have i1:¬(i:Int)<(m:Int):=by omega
      clear hI;go_wp2;refine⟨⟨k+1,by omega,by simp,(aN HI).next (aN HS) (.inr ⟨g,m,c,rfl,by omega⟩)⟩,?_⟩;show 4-((k:Int)+1).toNat<4-(k:Int).toNat;omega
  ·have k1:¬(k:Int)<4:=by omega
   obtain rfl:k=4:=by omega
   have HI:=bE hI;obtain⟨Kw,NC,fL,_⟩:=aN HY;have m6:wr.heap[yb]?=aE (aU cs 52):=(hI.mv.block yb (cC Kw) (aN HNY)).trans Kw;have cy4:wr.cell? ⟨yb,2,aC⟩=aE (aJ aB na cB):=aZ m6 NC;have fy4:=bG 2 m6;have OB:=bE (show wr.ownsRow B 84 1 (aJ aB na cB) na ls from cV fL λk e=>hI.mv.block k (Dy fL e) (aN YZ k e));have HBr:=bE (show B<=wr.heap.size from cF (aN HBB) hI.mv.size);have HYB:=bE m6;clear hI Kw NC fL m6 YZ HNY;go_wp2_with (
    at_builtin
    refine wpList_append_lies _ (by rfl) (.tmp 57) (.tmp 59) 48 (by rfl) B 84 iN (aJ aC 0 0) 1 24 underlying48 hiN hzN hsN hbyN rfl (by decide) (aJ aB na cB) na ls (by rfl) (by exact(aN OB).alloc _) ⟨wr.heap.size,0,aC⟩ 1 1 [aJ (aE ⟨hh,0,aC⟩) 4 4] (by rfl) rfl (aY.news_of_block (heap_alloc_new wr _)) (λu hu=>by simp at hu;subst hu;rfl) (by decide) (by unfold maxLen;omega) (by omega) (by have:=aN HBr;simp;omega) _ rfl ?_;intro g4 DC w4 M5 nP UH hlt4;have nP:(wr.alloc (aU #[aJ (aE ⟨hh,0,aC⟩) 4 4] 84)).grownBy w4 (aJ aB na cB).ownBlock:=⟨nP.os,nP.tape,nP.output,nP.size,nP.block⟩
    have e1:(wr.alloc (aU #[aJ (aE ⟨hh,0,aC⟩) 4 4] 84)).cell? ⟨yb,2,aC⟩=aE (aJ aB na cB):=bJ cy4 _;have e2:(wr.alloc (aU #[aJ (aE ⟨hh,0,aC⟩) 4 4] 84)).frozen? ⟨yb,2,aC⟩=aV:=cY (bU wr _ aC) cy4 fy4 (by simp);have e5:=nP.cell e1 nY;have f5:=cY nP e1 e2 nY;have G4:=bE nP;have O4:=bE M5;have A4:=bE UH;clear nP M5 UH e1 e2)
   go_end0;have hI:=aN HI;have MU:=aN G4;have Kw:=aN HYB;have Lz:bA wr.heap.size wr (wr.alloc (aU #[aJ (aE ⟨hh,0,aC⟩) 4 4] 84)):=(bF _ _).alloc (bD _) _;have hsA:=Lz.size;have xN:∀k,k<wr.heap.size->(aJ aB na cB).ownBlock≠aE k->w4.heap[k]?=wr.heap[k]?:=λk hk hn=>(MU.block k (by omega) λe=>hn e.symm).trans (Lz.block k hk)
   have TY:w4.heap[yb]?=aE (aU cs 52):=(xN yb (cC Kw) λe=>nY e.symm).trans Kw;have typB:∀{k:Nat},(aJ aB na cB).ownBlock=aE k->∃c2,wr.heap[k]?=aE (aU c2 84):=λe=>cJ (aN OB) e
   have pQ:∀{k:Nat} {c2:Array aG} {t:TypeId},wr.heap[k]?=aE (aU c2 t)->t≠84->t≠52->(w4.setCell ⟨yb,2,aC⟩ (aJ (aE ⟨g4,0,aC⟩) (na+1) DC)).heap[k]?=wr.heap[k]?:=λhk t1 t2=>(bA.heap_setCell _ _ _ _ λe=>by
    rw[e] at hk;exact t2 (cM hk Kw)).trans (xN _ (cC hk) λe=>by
    obtain⟨_,h'⟩:=typB e;exact t1 (cM hk h'))
   have hS:=aN HS0;refine⟨rfl,aJ (aE ⟨g4,0,aC⟩) (na+1) DC,bV TY 2 _,aJ (aE ⟨hh,0,aC⟩) 4 4,cV (aN O4) λk e=>bA.heap_setCell _ _ _ _ λx=>?_,?_,?_,?_⟩
   ·obtain⟨_,h'⟩:=cJ (aN O4) e;rw[x] at h';exact absurd (cM TY h') (by decide)
   ·refine⟨hh,S0,S1,S2,S3,rfl,⟨.inl (aN Hw3),_,_,_,(pQ hI.hb (by decide) (by decide)).trans hI.hb,.inr rfl⟩,(pQ hI.hb (by decide) (by decide)).trans hI.hb,λs hs=>?_⟩;obtain⟨j,hj⟩:=List.mem_iff_getElem?.1 hs;have hj4:=(bI.1 hj).1;simp at hj4;obtain⟨xJ,zZ⟩:=hI.sl j s hj;have zZ:=zZ (by omega);rcases xJ with e|⟨g,m,c,cur,e,Vd,_,hm⟩
    ·exact .inl e
    ·refine .inr ⟨g,m,c,e,hm,⟨?_,_,_,_,(pQ Vd (by decide) (by decide)).trans Vd,.inl rfl⟩,λt ht=>?_⟩
     ·rcases hI.ow j s g m c hj e with x|x
      ·right
       rw[hS];exact x
      ·exact .inl x
     ·rw[aY.cell?_of_block (w:=wr) (pQ Vd (by decide) (by decide))];have q:=zZ (t+1) g m c e t (by omega) ht;rw[(aN HY).2.2.2] at q;exact q
   ·intro k e;rcases aN A4 with x|x
    ·left
     rw[x];exact e
    ·right
     have:g4=k:=by simpa[aG.ownBlock] using e
     have:=hI.mv.size;have hz4:(wr.alloc (aU #[aJ (aE ⟨hh,0,aC⟩) 4 4] 84)).heap.size=wr.heap.size+1:=by simp
     omega
   ·have h1:Mv (λk=>k=yb\/(aJ aB na cB).ownBlock=aE k\/S0.ownBlock=aE k) w wr:=hI.mv.weaken λk hk=>.inr (.inr hk)
    have h2:=(h1.alloc (aU #[aJ (aE ⟨hh,0,aC⟩) 4 4] 84)).grown MU λk e=>.inl (.inr (.inl e))
    rw[hS];exact h2.setCell (p:=⟨yb,2,aC⟩) (.inl (.inl rfl)) _
theorem CM (w:aY)(yb na cA nb cB:Nat)(aA aB:Option Addr)(UL:na<=10000000)(Fx:nb<=10000000)(c1:w.cell? ⟨yb,1,aC⟩=aE (aJ aA na cA))(c2:w.cell? ⟨yb,2,aC⟩=aE (aJ aB nb cB))(HA:Hid (∀i,i<na->∃gA,aA=aE (⟨gA,0,aC⟩:Addr)/\∃(h:Nat) (s0 s1 s2 s3:aG),w.cell? ⟨gA,i,aC⟩=aE (aJ (aE ⟨h,0,aC⟩) 4 4)/\(∀k s,[s0,s1,s2,s3][k]?=aE s->w.cell? ⟨h,k,aC⟩=aE s)/\∀s∈[s0,s1,s2,s3],s=aJ aC 0 0\/∃g n c,s=aJ (aE ⟨g,0,aC⟩) n c/\n<=100/\∀j,j<n->w.cell? ⟨g,j,aC⟩=aE (aH aF (-7070-(i:Int)))))(HB:Hid (∀i,i<nb->∃gA,aB=aE (⟨gA,0,aC⟩:Addr)/\∃(h:Nat) (s0 s1 s2 s3:aG),w.cell? ⟨gA,i,aC⟩=aE (aJ (aE ⟨h,0,aC⟩) 4 4)/\(∀k s,[s0,s1,s2,s3][k]?=aE s->w.cell? ⟨h,k,aC⟩=aE s)/\∀s∈[s0,s1,s2,s3],s=aJ aC 0 0\/∃g n c,s=aJ (aE ⟨g,0,aC⟩) n c/\n<=100/\∀j,j<n->w.cell? ⟨g,j,aC⟩=aE (aI ⟨(Ck i).toArray⟩))):
 bH aQ 24 #[aK (aE ⟨yb,1,aC⟩)] w λe w' =>e=aM (bB aX)/\w' =w:=by
 go_enter func24,ntmps24;go_wp2
 go_loop [3] (λiv=>∃i:Nat,i<=na/\iv=aH aF i) (λiv=>match iv with|aH _ i=>na-i.toNat|_=>0)
 case atStart=>exact⟨0,bZ _,rfl⟩
 case round=>
  obtain⟨i,hi,rfl⟩:=hrel;by_cases eQ:i<na
  ·obtain⟨gA,EI,h,s0,s1,s2,s3,ci,hk,P1⟩:=aN HA i eQ;subst EI;have i1:(i:Int)<(na:Int):=by omega
   have i0:(0:Int)<=(i:Int):=by omega
   have i2:=wi ((i:Int)+1);have i3:=wi (-7070-(i:Int));have HF:=bE P1;have HK:=bE hk;clear P1 hk;go_wp2
   go_loop [4] (λkv=>∃k:Nat,k<=4/\kv=aH aF k) (λkv=>match kv with|aH _ k=>4-k.toNat|_=>0)
   case atStart=>exact⟨0,by omega,rfl⟩
   case round=>
    obtain⟨k,Gx,rfl⟩:=hrel;by_cases lT:k<4
    ·obtain⟨s,hs⟩:∃s,[s0,s1,s2,s3][k]?=aE s:=⟨_,bL (by simpa using lT)⟩
     have ck:=aN HK k s hs;have hf:=aN HF s (cG hs);have k1:(k:Int)<4:=by omega
     have k0:(0:Int)<=(k:Int):=by omega
     have k2:=wi ((k:Int)+1);have dk:4-((k:Int)+1).toNat<4-(k:Int).toNat:=by omega
     have Dk:=bE dk;clear dk hs;rcases hf with rfl|⟨g,m,c,rfl,hm,gK⟩
     ·go_wp2
      go_loop [5] (λjv=>jv=aH aF 0) (λ_=>0)
      case atStart=>rfl
      case round=>
       obtain rfl:=hrel;go_wp2;exact⟨⟨k+1,by omega,by simp⟩,aN Dk⟩
     ·have HC:=bE gK;clear gK;go_wp2
      go_loop [5] (λjv=>∃j:Nat,j<=m/\jv=aH aF j) (λjv=>match jv with|aH _ j=>m-j.toNat|_=>0)
      case atStart=>exact⟨0,bZ _,rfl⟩
      case round=>
       obtain⟨j,hj,rfl⟩:=hrel;by_cases Cc:j<m
       ·have cj:=aN HC j Cc;have j1:(j:Int)<(m:Int):=by omega
        have j0:(0:Int)<=(j:Int):=by omega
        have j2:=wi ((j:Int)+1);have dj:m-((j:Int)+1).toNat<m-(j:Int).toNat:=by omega
        have Dj:=bE dj;clear dj;go_wp2;exact⟨⟨j+1,by omega,by simp⟩,aN Dj⟩
       ·have j1:¬(j:Int)<(m:Int):=by omega
        go_wp2;exact⟨⟨k+1,by omega,by simp⟩,aN Dk⟩
    ·have k1:¬(k:Int)<4:=by omega
     have di:na-((i:Int)+1).toNat<na-(i:Int).toNat:=by omega
     have Di:=bE di;clear di;go_wp2;exact⟨⟨i+1,by omega,by simp⟩,aN Di⟩
  ·have i1:¬(i:Int)<(na:Int):=by omega
   go_wp2
   go_loop [6] (λiv=>∃i:Nat,i<=nb/\iv=aH aF i) (λiv=>match iv with|aH _ i=>nb-i.toNat|_=>0)
   case atStart=>exact⟨0,bZ _,rfl⟩
   case round=>
    obtain⟨i,hi,rfl⟩:=hrel;by_cases eQ:i<nb
    ·obtain⟨gA,EI,h,s0,s1,s2,s3,ci,hk,P1⟩:=aN HB i eQ;subst EI;have i1:(i:Int)<(nb:Int):=by omega
     have i0:(0:Int)<=(i:Int):=by omega
     have i2:=wi ((i:Int)+1);have HF:=bE P1;have HK:=bE hk;clear P1 hk;go_wp2_with fail
     refine(I5 i w (by omega)).mono ?_;rintro e iF ⟨rfl,mG⟩;subst iF;go_wp2
     go_loop [8] (λkv=>∃k:Nat,k<=4/\kv=aH aF k) (λkv=>match kv with|aH _ k=>4-k.toNat|_=>0)
     case atStart=>exact⟨0,by omega,rfl⟩
     case round=>
      obtain⟨k,Gx,rfl⟩:=hrel;by_cases lT:k<4
      ·obtain⟨s,hs⟩:∃s,[s0,s1,s2,s3][k]?=aE s:=⟨_,bL (by simpa using lT)⟩
       have ck:=aN HK k s hs;have hf:=aN HF s (cG hs);have k1:(k:Int)<4:=by omega
       have k0:(0:Int)<=(k:Int):=by omega
       have k2:=wi ((k:Int)+1);have dk:4-((k:Int)+1).toNat<4-(k:Int).toNat:=by omega
       have Dk:=bE dk;clear dk hs;rcases hf with rfl|⟨g,m,c,rfl,hm,gK⟩
       ·go_wp2
        go_loop [9] (λjv=>jv=aH aF 0) (λ_=>0)
        case atStart=>rfl
        case round=>
         obtain rfl:=hrel;go_wp2;exact⟨⟨k+1,by omega,by simp⟩,aN Dk⟩
       ·have HC:=bE gK;clear gK;go_wp2
        go_loop [9] (λjv=>∃j:Nat,j<=m/\jv=aH aF j) (λjv=>match jv with|aH _ j=>m-j.toNat|_=>0)
        case atStart=>exact⟨0,bZ _,rfl⟩
        case round=>
         obtain⟨j,hj,rfl⟩:=hrel;by_cases Cc:j<m
         ·have cj:=aN HC j Cc;have j1:(j:Int)<(m:Int):=by omega
          have j0:(0:Int)<=(j:Int):=by omega
          have j2:=wi ((j:Int)+1);have dj:m-((j:Int)+1).toNat<m-(j:Int).toNat:=by omega
          have Dj:=bE dj;clear dj;go_wp2;exact⟨⟨j+1,by omega,by simp⟩,aN Dj⟩
         ·have j1:¬(j:Int)<(m:Int):=by omega
          go_wp2;exact⟨⟨k+1,by omega,by simp⟩,aN Dk⟩
      ·have k1:¬(k:Int)<4:=by omega
       have di:nb-((i:Int)+1).toNat<nb-(i:Int).toNat:=by omega
       have Di:=bE di;clear di;go_wp2;exact⟨⟨i+1,by omega,by simp⟩,aN Di⟩
    ·have i1:¬(i:Int)<(nb:Int):=by omega
     go_wp2;go_ret;exact⟨rfl,rfl⟩
variable {K:Nat->Prop}
theorem qZ.reads {TS TN na:Nat}{a:Option Addr}{c:Nat}{la:List aG}{z:Nat->aG}(fL:w.ownsRow B TN 1 (aJ a na c) na la)(hl:∀i v,la[i]?=aE v->qZ w TS (z i) v K):∀i,i<na->∃gA,a=aE (⟨gA,0,aC⟩:Addr)/\∃(h:Nat) (s0 s1 s2 s3:aG),w.cell? ⟨gA,i,aC⟩=aE (aJ (aE ⟨h,0,aC⟩) 4 4)/\(∀k s,[s0,s1,s2,s3][k]?=aE s->w.cell? ⟨h,k,aC⟩=aE s)/\∀s∈[s0,s1,s2,s3],s=aJ aC 0 0\/∃g n c,s=aJ (aE ⟨g,0,aC⟩) n c/\n<=100/\∀j,j<n->w.cell? ⟨g,j,aC⟩=aE (z i):=λi hi=>by
 have hlen:la.length=na:=by have:=fL.1;omega
 obtain⟨v,hv⟩:∃v,la[i]?=aE v:=⟨_,bL (by omega)⟩
 rcases fL.2 with ⟨_,h0⟩|⟨g,cap,cur,e,_,hg,_⟩
 ·omega
 ·injection e with e _ _;refine⟨g,e,?_⟩;obtain⟨h,s0,s1,s2,s3,rfl,_,hb,hs⟩:=hl i v hv;refine⟨h,s0,s1,s2,s3,?_,λk s hk=>aZ hb (by rw[<-Array.getElem?_toList];exact hk),λs hm=>?_⟩
  ·have:=fL.cells (g:=g) (by rw[e];rfl) i _ hv;rwa[fE,dC] at this
  ·rcases hs s hm with x|⟨g2,n2,c2,x1,x2,_,x4⟩
   ·exact .inl x
   ·exact .inr ⟨g2,n2,c2,x1,x2,x4⟩
theorem qZ.mono {TS:TypeId}{z:aG}{K' :Nat->Prop}(h:qZ w TS z v K)(hK:∀k,K k->K' k):qZ w TS z v K' :=by
 obtain⟨h,s0,s1,s2,s3,e,k1,hb,hs⟩:=h;refine⟨h,s0,s1,s2,s3,e,hK _ k1,hb,λs hm=>?_⟩;rcases hs s hm with x|⟨g2,n2,c2,x1,x2,x3,x4⟩
 ·exact .inl x
 ·exact .inr ⟨g2,n2,c2,x1,x2,hK _ x3,x4⟩
variable {w' :aY}
theorem qZ.kept {TS:TypeId}{z:aG}(h:qZ w TS z v K)(hK:∀k,K k->w'.heap[k]?=w.heap[k]?):qZ w' TS z v K:=by
 obtain⟨h,s0,s1,s2,s3,e,k1,hb,hs⟩:=h;refine⟨h,s0,s1,s2,s3,e,k1,(hK _ k1).trans hb,λs hm=>?_⟩;rcases hs s hm with x|⟨g2,n2,c2,x1,x2,x3,x4⟩
 ·exact .inl x
 ·exact .inr ⟨g2,n2,c2,x1,x2,x3,λj hj=>by rw[aY.cell?_of_block (w:=w) (hK _ x3)];exact x4 j hj⟩
end
structure KY (w:aY) (X:Nat->Prop):Prop where
 d:∀k,X k->¬Zd w k
 b:∀k,X k->¬tN w k
 t:¬X 3
variable {w w' :aY}{mb:Nat}{F:Nat->Prop}{m:N.cE}
theorem Cg.GG {X:Nat->Prop}(h:Cg w mb F m)(hs:KY w X)(hd:∀k,F k->¬X k)(hm:Mv X w w'):Cg w' mb F m:=by
 have ht:lW w' :=eU h.Ca.1 (hm.block _ (lD h.Ca.1) hs.t);obtain⟨vO,vB,vS,vR,wv,h,rfl⟩:=h;have hk:∀k,yF mb vO vS vR wv k->w'.heap[k]?=w.heap[k]?:=λk hk=>hm.block k (h.n.lt k (.inl hk)) (hd k hk)
 refine⟨vO,vB,vS,vR,wv,⟨⟨?_,?_,?_,h.n.ap,h.n.sl,h.n.rl,h.n.si,h.n.ri,?_⟩,ht,h.o4⟩,rfl⟩
 ·exact(hk mb (.inl rfl)).trans h.n.mc
 ·exact cK h.n.st λk e=>hk k (.inr (.inl e))
 ·exact cK h.n.rt λk e=>hk k (.inr (.inr (.inl e)))
 ·refine h.n.own.GB (λk e=>hk k (.inr (.inr (.inr (.inr e))))) (λk e=>hk k (.inr (.inr (.inr (.inl e))))) λk e=>hm.block k ?_ λx=>hs.d k x e
  obtain⟨_,_,_,hc,_⟩:=e;exact cC hc
def Nh (w:aY) (rb:Nat) (G:Nat->Prop) (m:N.cE):Prop:=∃vA vS vR bs,cH w rb vA vS vR bs m/\G=dV rb vA vS vR
variable {rb:Nat}{G:Nat->Prop}
theorem Nh.GG {X:Nat->Prop}(h:Nh w rb G m)(hs:KY w X)(hd:∀k,G k->¬X k)(hm:Mv X w w'):Nh w' rb G m:=by
 obtain⟨vA,vS,vR,bs,h,rfl⟩:=h;exact⟨vA,vS,vR,bs,h.kept (λk hk=>hm.block k (h.lt k hk) (hd k hk)) (λk hk=>hm.block k (fW hk) λx=>hs.b k x hk),rfl⟩
theorem Nh.below (h:Nh w rb G m)(hb:bA w.heap.size w w'):Nh w' rb G m:=by
 obtain⟨vA,vS,vR,bs,h,rfl⟩:=h;exact⟨vA,vS,vR,bs,h.below hb,rfl⟩
theorem Nh.lt (h:Nh w rb G m):∀k,G k->k<w.heap.size:=by
 obtain⟨vA,vS,vR,bs,h,rfl⟩:=h;exact h.lt
def Dc (t:TypeId):Prop:=t=60\/t=3\/t=129\/t=62\/t=77\/t=98
variable {k:Nat}
theorem Cg.typed (h:Cg w mb F m)(hk:F k):∃cs t fr,w.heap[k]?=aE (aU cs t fr)/\Dc t:=by
 obtain⟨vO,vB,vS,vR,wv,h,rfl⟩:=h;rcases hk with rfl|e|e|e|e
 ·exact⟨_,_,_,h.n.mc,.inl rfl⟩
 ·obtain⟨c,hc⟩:=cZ h.n.st e;exact⟨_,_,_,hc,.inr (.inl rfl)⟩
 ·obtain⟨c,hc⟩:=cZ h.n.rt e;exact⟨_,_,_,hc,.inr (.inl rfl)⟩
 ·obtain⟨j,hj⟩:=e;obtain⟨en,he,kY⟩:=h.n.own.VP j k hj;have:=h.n.own.tA j en _ he hj kY;exact⟨_,_,_,this.2.2,.inr (.inr (.inl rfl))⟩
 ·obtain⟨c,hc⟩:=cZ h.n.own.row e;exact⟨_,_,_,hc,.inr (.inr (.inr (.inl rfl)))⟩
theorem Nh.typed (h:Nh w rb G m)(hk:G k):∃cs t fr,w.heap[k]?=aE (aU cs t fr)/\Dc t:=by
 obtain⟨vA,vS,vR,bs,h,rfl⟩:=h;rcases hk with rfl|e|e|e
 ·exact⟨_,_,_,h.mc,.inr (.inr (.inr (.inr (.inl rfl))))⟩
 ·obtain⟨c,hc⟩:=cJ h.row e;exact⟨_,_,_,hc,.inr (.inr (.inr (.inr (.inr rfl))))⟩
 ·obtain⟨c,hc⟩:=cZ h.st e;exact⟨_,_,_,hc,.inr (.inl rfl)⟩
 ·obtain⟨c,hc⟩:=cZ h.rt e;exact⟨_,_,_,hc,.inr (.inl rfl)⟩
variable {B:Nat}
theorem wZ {X:Nat->Prop}(ht:3<B)(h:∀k,X k->B<=k/\∃cs t fr,w.heap[k]?=aE (aU cs t fr)/\t≠180/\t≠107/\t≠101):KY w X:=by
 refine⟨λk hk ⟨cs,t,fr,hc,hd⟩=>?_,λk hk ⟨cs,fr,hc⟩=>?_,λhx=>?_⟩
 ·obtain⟨_,c2,t2,f2,h2,n1,n2,_⟩:=h k hk;have:=cM h2 hc;subst this;rcases hd with hd|hd
  ·exact n1 hd
  ·exact n2 hd
 ·obtain⟨_,c2,t2,f2,h2,_,_,n3⟩:=h k hk;exact n3 (cM h2 hc)
 ·have:=(h _ hx).1;omega
variable {t:TypeId}
theorem Gh (h:Dc t):t≠180/\t≠107/\t≠101/\t≠52/\t≠74/\t≠82/\t≠84/\t≠55/\t≠36:=by
 rcases h with rfl|rfl|rfl|rfl|rfl|rfl <;> decide
structure Pr where
 mb:Nat
 rb:Nat
 F:Nat->Prop
 G:Nat->Prop
 m:N.cE
def Pr.T (p:Pr):Nat->Prop:=λk=>p.F k\/p.G k
structure rA (w:aY) (p:Pr):Prop where
 has:Cg w p.mb p.F p.m
 ref:Nh w p.rb p.G p.m
 fit:Ka p.m
 ap:∀k,p.F k->¬p.G k
theorem rA.GG {p:Pr}{X:Nat->Prop}(h:rA w p)(hs:KY w X)(hd:∀k,p.T k->¬X k)(hm:Mv X w w'):rA w' p:=⟨h.has.GG hs (λk hk=>hd k (.inl hk)) hm,h.ref.GG hs (λk hk=>hd k (.inr hk)) hm,h.fit,h.ap⟩
theorem rA.below {p:Pr}(h:rA w p)(hb:bA w.heap.size w w'):rA w' p:=⟨h.has.below hb,h.ref.below hb,h.fit,h.ap⟩
theorem rA.lt {p:Pr}(h:rA w p):∀k,p.T k->k<w.heap.size:=λk hk=>by
 rcases hk with hk|hk
 ·exact h.has.lt k hk
 ·exact h.ref.lt k hk
theorem rA.typed {p:Pr}(h:rA w p)(hk:p.T k):∃cs t fr,w.heap[k]?=aE (aU cs t fr)/\Dc t:=by
 rcases hk with hk|hk
 ·exact h.has.typed hk
 ·exact h.ref.typed hk
def lX (ps:List Pr):List aG:=ps.flatMap λp=>[aK (aE ⟨p.mb,0,aC⟩),aK (aE ⟨p.rb,0,aC⟩)]
theorem VA (ps:List Pr):(lX ps).length=ps.length*2:=by
 induction ps with
 |nil=>rfl
 |cons p t ih=>
  simp[lX] at ih ⊢;omega
theorem Ou (ps:List Pr)(p:Pr):lX (ps++[p])=lX ps++[aK (aE ⟨p.mb,0,aC⟩),aK (aE ⟨p.rb,0,aC⟩)]:=by simp[lX]
theorem Fu:∀(ps:List Pr) (j:Nat) (p:Pr) (f:Nat),ps[j]?=aE p->f<2->(lX ps)[j*2+f]?=([aK (aE ⟨p.mb,0,aC⟩),aK (aE ⟨p.rb,0,aC⟩)]:List aG)[f]?
 |[],_,_,_,h,_=>by simp at h
 |p0::t,0,p,f,h,hf=>by
  have:p0=p:=by simpa using h
  subst this;show([aK (aE ⟨p0.mb,0,aC⟩),aK (aE ⟨p0.rb,0,aC⟩)]++lX t)[0*2+f]?=_;rw[Nat.zero_mul,dC,bT (by simp only[cX,List.length_nil];omega)]
 |p0::t,j+1,p,f,h,hf=>by
  have h1:=Fu t j p f (by simpa using h) hf;show([aK (aE ⟨p0.mb,0,aC⟩),aK (aE ⟨p0.rb,0,aC⟩)]++lX t)[(j+1)*2+f]?=_;rw[bP (by simp only[cX,List.length_nil];omega),show(j+1)*2+f - [aK (aE ⟨p0.mb,0,aC⟩),aK (aE ⟨p0.rb,0,aC⟩)].length=j*2+f by simp only[cX,List.length_nil];omega,h1]
structure jG (B:Nat) (w:aY) (yb:Nat) (t:Nat) (ps:List Pr) (vP vA vB:aG) (la lb:List aG) (K:Nat->Prop):Prop where
 y:w.heap[yb]?=aE (aU #[vP,vA,vB] 52)
 yB:B<=yb
 Ex:w.ownsRow B 74 2 vP ps.length (lX ps)
 Dw:w.ownsRow B 82 1 vA la.length la
 Dt:w.ownsRow B 84 1 vB lb.length lb
 al:∀(i:Nat) (v:aG),la[i]?=aE v->qZ w 26 (aH aF (-7070-(i:Int))) v K
 bl:∀(i:Nat) (v:aG),lb[i]?=aE v->qZ w 23 (aI ⟨(Ck i).toArray⟩) v K
 pr:∀p∈ps,rA w p/\(∀k,p.T k->B<=k)/\p.m.all.length<=501*t
 ap:∀(i j:Nat) (p q:Pr),ps[i]?=aE p->ps[j]?=aE q->i≠j->∀k,p.T k->¬q.T k
 kp:∀p∈ps,∀k,p.T k->¬K k
 kB:∀k,K k->B<=k/\k<w.heap.size/\∃cs t fr,w.heap[k]?=aE (aU cs t fr)/\(t=3\/t=9\/t=26\/t=23)
 vI:ps.length<=t/\la.length<=t/\lb.length<=t
 tb:3<B
 hB:B<=w.heap.size
variable {yb:Nat}{vP vA vB:aG}{K:Nat->Prop}
theorem jG.below {t:Nat}{ps:List Pr}{la lb:List aG}(h:jG B w yb t ps vP vA vB la lb K)(hb:bA w.heap.size w w'):jG B w' yb t ps vP vA vB la lb K:=by
 have hk:∀k,k<w.heap.size->w'.heap[k]?=w.heap[k]?:=hb.block;refine⟨(hk yb (cC h.y)).trans h.y,h.yB,cV h.Ex λk e=>hk k (mC h.Ex e),cV h.Dw λk e=>hk k (Dy h.Dw e),cV h.Dt λk e=>hk k (Dy h.Dt e),λi v hv=>(h.al i v hv).kept λk hK=>hk k (h.kB k hK).2.1,λi v hv=>(h.bl i v hv).kept λk hK=>hk k (h.kB k hK).2.1,λp hp=>⟨(h.pr p hp).1.below hb,(h.pr p hp).2⟩,h.ap,h.kp,λk hK=>⟨(h.kB k hK).1,eC (h.kB k hK).2.1 hb.size,?_⟩,h.vI,h.tb,cF h.hB hb.size⟩;obtain⟨cs,tt,fr,hc,ht⟩:=(h.kB k hK).2.2;exact⟨cs,tt,fr,(hk k (cC hc)).trans hc,ht⟩
theorem jG.later {t t' :Nat}{ps:List Pr}{la lb:List aG}(h:jG B w yb t ps vP vA vB la lb K)(ht:t<=t'):jG B w yb t' ps vP vA vB la lb K:=
 ⟨h.y,h.yB,h.Ex,h.Dw,h.Dt,h.al,h.bl,λp hp=>⟨(h.pr p hp).1,(h.pr p hp).2.1,by have:=(h.pr p hp).2.2;omega⟩,h.ap,h.kp,h.kB,⟨by have:=h.vI;omega,by have:=h.vI;omega,by have:=h.vI;omega⟩,h.tb,h.hB⟩
variable {i:Nat}
theorem jG.turn {t:Nat}{ps:List Pr}{la lb:List aG}{X:Nat->Prop}{p p' :Pr}(h:jG B w yb t ps vP vA vB la lb K)(hi:ps[i]?=aE p)(hmb:p'.mb=p.mb)(Mc:p'.rb=p.rb)(hX:∀k,X k->p.T k)(hm:Mv X w w')(hf:dG w p.T p'.T)(hp' :rA w' p')(hlen:p'.m.all.length<=501*t):jG B w' yb t (ps.set i p') vP vA vB la lb K:=by
 have oM:=cG hi;have hilt:=(bI.1 hi).1;obtain⟨hpa,hpB,_⟩:=h.pr p oM;have TB:KY w X:=wZ h.tb λk hk=>⟨hpB k (hX k hk),by
  obtain⟨cs,tt,fr,hc,ht⟩:=hpa.typed (hX k hk);have:=Gh ht;exact⟨cs,tt,fr,hc,this.1,this.2.1,this.2.2.1⟩⟩
 have gZ:∀{k:Nat} {cs:Array aG} {tt:TypeId} {fr:Nat×Nat},w.heap[k]?=aE (aU cs tt fr)->¬Dc tt->w'.heap[k]?=w.heap[k]?:=λhc ht=>hm.block _ (cC hc) λhx=>by
  obtain⟨_,t2,_,h2,hM⟩:=hpa.typed (hX _ hx);rw[cM hc h2] at ht;exact ht hM
 have hK:∀k,K k->w'.heap[k]?=w.heap[k]?:=λk hk=>hm.block k (h.kB k hk).2.1 λhx=>h.kp p oM k (hX k hx) hk
 have hpc:lX (ps.set i p')=lX ps:=by
  unfold lX;rw[List.flatMap_def,List.flatMap_def]
  congr 1
  apply List.ext_getElem?;intro j;rw[cI,cI,List.getElem?_set]
  split
  ·rename_i e
   subst e;rw[hi];simp[hmb,Mc]
  ·rfl
 have eY:∀k,p'.T k->B<=k:=λk hk=>by
  rcases hf k hk with x|x
  ·exact hpB k x
  ·have:=h.hB;omega
 have O6:∀q∈ps.set i p',q=p' \/∃j,j≠i/\ps[j]?=aE q:=λq hq=>by
  obtain⟨j,hj⟩:=List.mem_iff_getElem?.1 hq;rw[List.getElem?_set] at hj
  split at hj
  ·rename_i e
   injection hj with hj;exact .inl hj.symm
  ·rename_i e
   exact .inr ⟨j,λx=>e x.symm,hj⟩
 have apn:∀j q,j≠i->ps[j]?=aE q->∀k,q.T k->¬p'.T k:=λj q VQ hq k hk hx=>by
  have hqa:=(h.pr q (cG hq)).1;rcases hf k hx with x|x
  ·exact h.ap j i q p hq hi VQ k hk x
  ·have:=hqa.lt k hk;omega
 refine⟨(gZ h.y (by unfold Dc;decide)).trans h.y,h.yB,?_,cV h.Dw λk e=>?_,cV h.Dt λk e=>?_,λj v hv=>(h.al j v hv).kept hK,λj v hv=>(h.bl j v hv).kept hK,λq hq=>?_,?_,λq hq k hk=>?_,λk hk=>⟨(h.kB k hk).1,eC (h.kB k hk).2.1 hm.size,?_⟩,by rw[List.length_set];exact h.vI,h.tb,cF h.hB hm.size⟩
 ·rw[hpc,List.length_set];refine cV h.Ex λk e=>?_
  obtain⟨_,hc⟩:=cJ h.Ex e;exact gZ hc (by unfold Dc;decide)
 ·obtain⟨_,hc⟩:=cJ h.Dw e;exact gZ hc (by unfold Dc;decide)
 ·obtain⟨_,hc⟩:=cJ h.Dt e;exact gZ hc (by unfold Dc;decide)
 ·rcases O6 q hq with rfl|⟨j,VQ,hj⟩
  ·exact⟨hp',eY,hlen⟩
  ·obtain⟨q1,q2,q3⟩:=h.pr q (cG hj);exact⟨q1.GG TB (λk hk hx=>h.ap j i q p hj hi VQ k hk (hX k hx)) hm,q2,q3⟩
 ·intro a b pa pb ha hb Ma k hk tC;rw[List.getElem?_set] at ha hb
  split at ha
  ·rename_i ea
   injection ha with ha;subst ha;rw[dL (by omega)] at hb;exact apn b pb (by omega) hb k tC hk
  ·rename_i ea
   split at hb
   ·rename_i eb
    injection hb with hb;subst hb;exact apn a pa (by omega) ha k hk tC
   ·exact h.ap a b pa pb ha hb Ma k hk tC
 ·rcases O6 q hq with rfl|⟨j,VQ,hj⟩
  ·intro hx;rcases hf k hk with x|x
   ·exact h.kp p oM k x hx
   ·have:=(h.kB k hx).2.1;omega
  ·exact h.kp q (cG hj) k hk
 ·obtain⟨cs,tt,fr,hc,ht⟩:=(h.kB k hk).2.2;exact⟨cs,tt,fr,(hK k hk).trans hc,ht⟩
theorem jG.pair {t:Nat}{ps:List Pr}{la lb:List aG}(h:jG B w yb t ps vP vA vB la lb K){p:Pr}(hi:ps[i]?=aE p):∃g cap,vP=aJ (aE ⟨g,0,aC⟩) ps.length cap/\w.cell? ⟨g,i*2,aC⟩=aE (aK (aE ⟨p.mb,0,aC⟩))/\w.cell? ⟨g,i*2+1,aC⟩=aE (aK (aE ⟨p.rb,0,aC⟩)):=by
 have hilt:=(bI.1 hi).1;rcases h.Ex.2 with ⟨_,h0⟩|⟨g,cap,cur,hv,_,hg,hle,_,hs,ht⟩
 ·omega
 have uM:∀f x,f<2->([aK (aE ⟨p.mb,0,aC⟩),aK (aE ⟨p.rb,0,aC⟩)]:List aG)[f]?=aE x->w.cell? ⟨g,i*2+f,aC⟩=aE x:=λf x hf hx=>by
  have h1:=Fu ps i p f hi hf;rw[<-ht,List.getElem?_take,eJ (by omega),hx] at h1;rw[cell_of_row w g (i*2+f) cur _ (0,0) hg,<-Array.getElem?_toList];exact h1
 exact⟨g,cap,hv,uM 0 _ (by omega) rfl,uM 1 _ (by omega) rfl⟩
section
attribute [local go_sem ↓] Go.wp_at_zero Go.wp_at_succ
def uY (c n:Int):Int:=(if c<0 then -(c+1) else c)%n
theorem Av {c n:Int}(hn:0<n):0<=uY c n/\uY c n<n:=by
 unfold uY
 split
 ·exact⟨Int.emod_nonneg _ (by omega),Int.emod_lt_of_pos _ hn⟩
 ·exact⟨Int.emod_nonneg _ (by omega),Int.emod_lt_of_pos _ hn⟩
theorem VT (w:aY)(yb gP n cP i mb rb:Nat)(M:Int)(S:ByteArray)(hM:dQ M)(hn:0<n)(Mm:n<=100000000)(hi:uY M (n:Int)=(i:Int))(c0:w.cell? ⟨yb,0,aC⟩=aE (aJ (aE ⟨gP,0,aC⟩) n cP))(p0:w.cell? ⟨gP,i*2,aC⟩=aE (aK (aE ⟨mb,0,aC⟩)))(p1:w.cell? ⟨gP,i*2+1,aC⟩=aE (aK (aE ⟨rb,0,aC⟩)))(fU:aY->Prop)(Cd:bH aQ 15 #[aK (aE ⟨mb,0,aC⟩),aI S] ((w.alloc (aU #[aH aF 2,aH aF M,aI S] 55)).alloc (aU #[aK (aE ⟨mb,0,aC⟩),aK (aE ⟨rb,0,aC⟩)] 74)).drew λe w3=>∃(out:ByteArray) (er wd:Int),e=aM (bM #[aI out,aH aF er,aH aF wd])/\w3.cell? ⟨w.heap.size+1,1,aC⟩=aE (aK (aE ⟨rb,0,aC⟩))/\w3.cell? ⟨w.heap.size,2,aC⟩=aE (aI S)/\
  bH aQ 33 #[aK (aE ⟨rb,0,aC⟩),aI S] (w3.alloc (aU #[aI out,aH aF er,aH aF wd] 36)) λe w5=>e=aM (bM #[aI out,aH aF er,aH aF wd])/\w5.cell? ⟨w3.heap.size,0,aC⟩=aE (aI out)/\w5.cell? ⟨w3.heap.size,1,aC⟩=aE (aH aF er)/\w5.cell? ⟨w3.heap.size,2,aC⟩=aE (aH aF wd)/\∀W,bA w5.heap.size w5 W->fU W):
 bH aQ 22 #[aK (aE ⟨yb,0,aC⟩),bM #[aH aF 2,aH aF M,aI S]] w λe w' =>e=aM (bB aX)/\fU w' :=by
 have nV:=Av (c:=M) (n:=(n:Int)) (by omega);rw[hi] at nV;have i1:(i:Int)<(n:Int):=nV.2;have i0:(0:Int)<=(i:Int):=nV.1;have i5:((n:Int)==0)=aV:=by rw[beq_eq_false_iff_ne];omega
 have TG:=bE (λW:aY=>(show bH aQ 32 #[aH aF M,aH aF n] W λe w' =>e=aM (aH aF i)/\w' =W from by
  have:=zK M (n:Int) W hM.1 hM.2 (by omega) (by omega);rw[show(if M<0 then -(M+1) else M)%(n:Int)=(i:Int) from hi] at this;exact this))
 have z0:=bJ c0 (aU #[aH aF 2,aH aF M,aI S] 55);have z1:(w.alloc (aU #[aH aF 2,aH aF M,aI S] 55)).cell? ⟨w.heap.size,1,aC⟩=aE (aH aF M):=aZ (heap_alloc_new w _) rfl;have zk:(w.alloc (aU #[aH aF 2,aH aF M,aI S] 55)).cell? ⟨w.heap.size,0,aC⟩=aE (aH aF 2):=aZ (heap_alloc_new w _) rfl;have z4:(w.alloc (aU #[aH aF 2,aH aF M,aI S] 55)).cell? ⟨w.heap.size,2,aC⟩=aE (aI S):=aZ (heap_alloc_new w _) rfl;have z2:=bJ p0 (aU #[aH aF 2,aH aF M,aI S] 55);have z3:=bJ p1 (aU #[aH aF 2,aH aF M,aI S] 55);clear hi nV hM hn c0 p0 p1;have HD:=bE Cd;clear Cd;go_enter func22,ntmps22;go_wp2;go_region_held3 (λw' =>w'.cell? ⟨yb,0,aC⟩=aE (aJ (aE ⟨gP,0,aC⟩) n cP)/\w'.cell? ⟨w.heap.size,1,aC⟩=aE (aH aF M)/\w'.cell? ⟨gP,i*2,aC⟩=aE (aK (aE ⟨mb,0,aC⟩))/\w'.cell? ⟨gP,i*2+1,aC⟩=aE (aK (aE ⟨rb,0,aC⟩))) (first|exact⟨z0,z1,z2,z3⟩|exact⟨bJ z0 _,bJ z1 _,bJ z2 _,bJ z3 _⟩|go_keep)
  ((go_simp;refine(aN TG _).mono ?_
    rintro e iF ⟨rfl,mG⟩;subst iF))
 all_goals
  go_wp2_with fail
  refine(aN HD).mono ?_;rintro e w3 ⟨out,er,wd,rfl,y1,y2,hr⟩;have HR:=bE hr;have v1:=bJ y1 (aU #[aI out,aH aF er,aH aF wd] 36);have v2:=bJ y2 (aU #[aI out,aH aF er,aH aF wd] 36);clear hr HD z0 z1 z2 z3 zk z4;go_wp2_with fail
  refine(aN HR).mono ?_;rintro e w5 ⟨rfl,x0,x1,x2,hP⟩;have HP:=bE hP;have u0:=bJ x0 (aU #[aI out,aH aF er,aH aF wd] 36);have u1:=bJ x1 (aU #[aI out,aH aF er,aH aF wd] 36);have u2:=bJ x2 (aU #[aI out,aH aF er,aH aF wd] 36);have lt1:=eG x0;clear hP HR y1 y2 v1 v2;go_wp2;go_ret;exact⟨by simp,aN HP _ ((bF _ _).alloc (bD _) _)⟩
theorem AB (w:aY)(yb gP n cP i mb rb:Nat)(M:Int)(S:ByteArray)(hM:dQ M)(hn:0<n)(Mm:n<=100000000)(hi:uY M (n:Int)=(i:Int))(c0:w.cell? ⟨yb,0,aC⟩=aE (aJ (aE ⟨gP,0,aC⟩) n cP))(p0:w.cell? ⟨gP,i*2,aC⟩=aE (aK (aE ⟨mb,0,aC⟩)))(p1:w.cell? ⟨gP,i*2+1,aC⟩=aE (aK (aE ⟨rb,0,aC⟩)))(fU:aY->Prop)(Cd:bH aQ 16 #[aK (aE ⟨mb,0,aC⟩)] ((w.alloc (aU #[aH aF 3,aH aF M,aI S] 55)).alloc (aU #[aK (aE ⟨mb,0,aC⟩),aK (aE ⟨rb,0,aC⟩)] 74)).drew λe w3=>∃(a aS:Option Addr) (m c nS cS:Nat),e=aM (aJ a m c)/\w3.cell? ⟨w.heap.size+1,1,aC⟩=aE (aK (aE ⟨rb,0,aC⟩))/\w3.cell? ⟨rb,1,aC⟩=aE (aJ aS nS cS)/\bH aQ 34 #[aJ a m c,aJ aS nS cS] w3 λe w4=>e=aM (bB aX)/\bH aQ 35 #[aK (aE ⟨yb,1,aC⟩),aJ a m c] w4 λe w5=>e=aM (bC #[])/\fU w5):
 bH aQ 22 #[aK (aE ⟨yb,0,aC⟩),bM #[aH aF 3,aH aF M,aI S]] w λe w' =>e=aM (bB aX)/\fU w' :=by
 have nV:=Av (c:=M) (n:=(n:Int)) (by omega);rw[hi] at nV;have i1:(i:Int)<(n:Int):=nV.2;have i0:(0:Int)<=(i:Int):=nV.1;have i5:((n:Int)==0)=aV:=by rw[beq_eq_false_iff_ne];omega
 have TG:=bE (λW:aY=>(show bH aQ 32 #[aH aF M,aH aF n] W λe w' =>e=aM (aH aF i)/\w' =W from by
  have:=zK M (n:Int) W hM.1 hM.2 (by omega) (by omega);rw[show(if M<0 then -(M+1) else M)%(n:Int)=(i:Int) from hi] at this;exact this))
 have z0:=bJ c0 (aU #[aH aF 3,aH aF M,aI S] 55);have z1:(w.alloc (aU #[aH aF 3,aH aF M,aI S] 55)).cell? ⟨w.heap.size,1,aC⟩=aE (aH aF M):=aZ (heap_alloc_new w _) rfl;have zk:(w.alloc (aU #[aH aF 3,aH aF M,aI S] 55)).cell? ⟨w.heap.size,0,aC⟩=aE (aH aF 3):=aZ (heap_alloc_new w _) rfl;have z4:(w.alloc (aU #[aH aF 3,aH aF M,aI S] 55)).cell? ⟨w.heap.size,2,aC⟩=aE (aI S):=aZ (heap_alloc_new w _) rfl;have z2:=bJ p0 (aU #[aH aF 3,aH aF M,aI S] 55);have z3:=bJ p1 (aU #[aH aF 3,aH aF M,aI S] 55);clear hi nV hM hn c0 p0 p1;have HD:=bE Cd;clear Cd;go_enter func22,ntmps22;go_wp2;go_region_held3 (λw' =>w'.cell? ⟨yb,0,aC⟩=aE (aJ (aE ⟨gP,0,aC⟩) n cP)/\w'.cell? ⟨w.heap.size,1,aC⟩=aE (aH aF M)/\w'.cell? ⟨gP,i*2,aC⟩=aE (aK (aE ⟨mb,0,aC⟩))/\w'.cell? ⟨gP,i*2+1,aC⟩=aE (aK (aE ⟨rb,0,aC⟩))) (first|exact⟨z0,z1,z2,z3⟩|exact⟨bJ z0 _,bJ z1 _,bJ z2 _,bJ z3 _⟩|go_keep)
  ((go_simp;refine(aN TG _).mono ?_
    rintro e iF ⟨rfl,mG⟩;subst iF))
 all_goals
  go_wp2_with fail
  refine(aN HD).mono ?_;rintro e w3 ⟨a,aS,m,c,nS,cS,rfl,y1,y2,hr⟩;have HR:=bE hr;clear hr HD z0 z1 z2 z3 zk z4;go_wp2_with fail
  refine(aN HR).mono ?_;rintro e w4 ⟨rfl,hb⟩;have HB:=bE hb;clear hb HR y1 y2;go_wp2_with fail
  refine(aN HB).mono ?_;rintro e w5 ⟨rfl,hP⟩;have HP:=bE hP;clear hP HB;go_wp2;go_ret;exact⟨rfl,aN HP⟩
theorem AN (w:aY)(yb gP n cP i mb rb:Nat)(M:Int)(S:ByteArray)(hM:dQ M)(hn:0<n)(Mm:n<=100000000)(hi:uY M (n:Int)=(i:Int))(c0:w.cell? ⟨yb,0,aC⟩=aE (aJ (aE ⟨gP,0,aC⟩) n cP))(p0:w.cell? ⟨gP,i*2,aC⟩=aE (aK (aE ⟨mb,0,aC⟩)))(p1:w.cell? ⟨gP,i*2+1,aC⟩=aE (aK (aE ⟨rb,0,aC⟩)))(fU:aY->Prop)(Cd:bH aQ 17 #[aK (aE ⟨mb,0,aC⟩)] ((w.alloc (aU #[aH aF 4,aH aF M,aI S] 55)).alloc (aU #[aK (aE ⟨mb,0,aC⟩),aK (aE ⟨rb,0,aC⟩)] 74)).drew λe w3=>∃(a aS:Option Addr) (m c nS cS:Nat),e=aM (aJ a m c)/\w3.cell? ⟨w.heap.size+1,1,aC⟩=aE (aK (aE ⟨rb,0,aC⟩))/\w3.cell? ⟨rb,2,aC⟩=aE (aJ aS nS cS)/\bH aQ 34 #[aJ a m c,aJ aS nS cS] w3 λe w4=>e=aM (bB aX)/\bH aQ 35 #[aK (aE ⟨yb,1,aC⟩),aJ a m c] w4 λe w5=>e=aM (bC #[])/\fU w5):
 bH aQ 22 #[aK (aE ⟨yb,0,aC⟩),bM #[aH aF 4,aH aF M,aI S]] w λe w' =>e=aM (bB aX)/\fU w' :=by
 have nV:=Av (c:=M) (n:=(n:Int)) (by omega);rw[hi] at nV;have i1:(i:Int)<(n:Int):=nV.2;have i0:(0:Int)<=(i:Int):=nV.1;have i5:((n:Int)==0)=aV:=by rw[beq_eq_false_iff_ne];omega
 have TG:=bE (λW:aY=>(show bH aQ 32 #[aH aF M,aH aF n] W λe w' =>e=aM (aH aF i)/\w' =W from by
  have:=zK M (n:Int) W hM.1 hM.2 (by omega) (by omega);rw[show(if M<0 then -(M+1) else M)%(n:Int)=(i:Int) from hi] at this;exact this))
 have z0:=bJ c0 (aU #[aH aF 4,aH aF M,aI S] 55);have z1:(w.alloc (aU #[aH aF 4,aH aF M,aI S] 55)).cell? ⟨w.heap.size,1,aC⟩=aE (aH aF M):=aZ (heap_alloc_new w _) rfl;have zk:(w.alloc (aU #[aH aF 4,aH aF M,aI S] 55)).cell? ⟨w.heap.size,0,aC⟩=aE (aH aF 4):=aZ (heap_alloc_new w _) rfl;have z4:(w.alloc (aU #[aH aF 4,aH aF M,aI S] 55)).cell? ⟨w.heap.size,2,aC⟩=aE (aI S):=aZ (heap_alloc_new w _) rfl;have z2:=bJ p0 (aU #[aH aF 4,aH aF M,aI S] 55);have z3:=bJ p1 (aU #[aH aF 4,aH aF M,aI S] 55);clear hi nV hM hn c0 p0 p1;have HD:=bE Cd;clear Cd;go_enter func22,ntmps22;go_wp2;go_region_held3 (λw' =>w'.cell? ⟨yb,0,aC⟩=aE (aJ (aE ⟨gP,0,aC⟩) n cP)/\w'.cell? ⟨w.heap.size,1,aC⟩=aE (aH aF M)/\w'.cell? ⟨gP,i*2,aC⟩=aE (aK (aE ⟨mb,0,aC⟩))/\w'.cell? ⟨gP,i*2+1,aC⟩=aE (aK (aE ⟨rb,0,aC⟩))) (first|exact⟨z0,z1,z2,z3⟩|exact⟨bJ z0 _,bJ z1 _,bJ z2 _,bJ z3 _⟩|go_keep)
  ((go_simp;refine(aN TG _).mono ?_
    rintro e iF ⟨rfl,mG⟩;subst iF))
 all_goals
  go_wp2_with fail
  refine(aN HD).mono ?_;rintro e w3 ⟨a,aS,m,c,nS,cS,rfl,y1,y2,hr⟩;have HR:=bE hr;clear hr HD z0 z1 z2 z3 zk z4;go_wp2_with fail
  refine(aN HR).mono ?_;rintro e w4 ⟨rfl,hb⟩;have HB:=bE hb;clear hb HR y1 y2;go_wp2_with fail
  refine(aN HB).mono ?_;rintro e w5 ⟨rfl,hP⟩;have HP:=bE hP;clear hP HB;go_wp2;go_ret;exact⟨rfl,aN HP⟩
theorem Z6 (w:aY)(yb gP n cP i mb rb:Nat)(M:Int)(S:ByteArray)(hM:dQ M)(hn:0<n)(Mm:n<=100000000)(hi:uY M (n:Int)=(i:Int))(c0:w.cell? ⟨yb,0,aC⟩=aE (aJ (aE ⟨gP,0,aC⟩) n cP))(p0:w.cell? ⟨gP,i*2,aC⟩=aE (aK (aE ⟨mb,0,aC⟩)))(p1:w.cell? ⟨gP,i*2+1,aC⟩=aE (aK (aE ⟨rb,0,aC⟩)))(fU:aY->Prop)(Cd:bH aQ 11 #[aK (aE ⟨mb,0,aC⟩)] ((w.alloc (aU #[aH aF 5,aH aF M,aI S] 55)).alloc (aU #[aK (aE ⟨mb,0,aC⟩),aK (aE ⟨rb,0,aC⟩)] 74)).drew λe w3=>∃(a:Option Addr) (m c:Nat),e=aM (aJ a m c)/\w3.cell? ⟨w.heap.size+1,1,aC⟩=aE (aK (aE ⟨rb,0,aC⟩))/\bH aQ 37 #[aK (aE ⟨rb,0,aC⟩)] w3 λe w4=>∃v,e=aM v/\bH aQ 36 #[aJ a m c,v] w4 λe w5=>e=aM (bB aX)/\bH aQ 38 #[aK (aE ⟨yb,1,aC⟩),aJ a m c] w5 λe w6=>e=aM (bC #[])/\fU w6):
 bH aQ 22 #[aK (aE ⟨yb,0,aC⟩),bM #[aH aF 5,aH aF M,aI S]] w λe w' =>e=aM (bB aX)/\fU w' :=by
 have nV:=Av (c:=M) (n:=(n:Int)) (by omega);rw[hi] at nV;have i1:(i:Int)<(n:Int):=nV.2;have i0:(0:Int)<=(i:Int):=nV.1;have i5:((n:Int)==0)=aV:=by rw[beq_eq_false_iff_ne];omega
 have TG:=bE (λW:aY=>(show bH aQ 32 #[aH aF M,aH aF n] W λe w' =>e=aM (aH aF i)/\w' =W from by
  have:=zK M (n:Int) W hM.1 hM.2 (by omega) (by omega);rw[show(if M<0 then -(M+1) else M)%(n:Int)=(i:Int) from hi] at this;exact this))
 have z0:=bJ c0 (aU #[aH aF 5,aH aF M,aI S] 55);have z1:(w.alloc (aU #[aH aF 5,aH aF M,aI S] 55)).cell? ⟨w.heap.size,1,aC⟩=aE (aH aF M):=aZ (heap_alloc_new w _) rfl;have zk:(w.alloc (aU #[aH aF 5,aH aF M,aI S] 55)).cell? ⟨w.heap.size,0,aC⟩=aE (aH aF 5):=aZ (heap_alloc_new w _) rfl;have z4:(w.alloc (aU #[aH aF 5,aH aF M,aI S] 55)).cell? ⟨w.heap.size,2,aC⟩=aE (aI S):=aZ (heap_alloc_new w _) rfl;have z2:=bJ p0 (aU #[aH aF 5,aH aF M,aI S] 55);have z3:=bJ p1 (aU #[aH aF 5,aH aF M,aI S] 55);clear hi nV hM hn c0 p0 p1;have HD:=bE Cd;clear Cd;go_enter func22,ntmps22;go_wp2;go_region_held3 (λw' =>w'.cell? ⟨yb,0,aC⟩=aE (aJ (aE ⟨gP,0,aC⟩) n cP)/\w'.cell? ⟨w.heap.size,1,aC⟩=aE (aH aF M)/\w'.cell? ⟨gP,i*2,aC⟩=aE (aK (aE ⟨mb,0,aC⟩))/\w'.cell? ⟨gP,i*2+1,aC⟩=aE (aK (aE ⟨rb,0,aC⟩))) (first|exact⟨z0,z1,z2,z3⟩|exact⟨bJ z0 _,bJ z1 _,bJ z2 _,bJ z3 _⟩|go_keep)
  ((go_simp;refine(aN TG _).mono ?_
    rintro e iF ⟨rfl,mG⟩;subst iF))
 all_goals
  go_wp2_with fail
  refine(aN HD).mono ?_;rintro e w3 ⟨a,m,c,rfl,y1,hr⟩;have HR:=bE hr;clear hr HD z0 z1 z2 z3 zk z4;go_wp2_with fail
  refine(aN HR).mono ?_;rintro e w4 ⟨v,rfl,hb⟩;have HB:=bE hb;clear hb HR y1;go_wp2_with fail
  refine(aN HB).mono ?_;rintro e w5 ⟨rfl,hc⟩;have HC:=bE hc;clear hc HB;go_wp2_with fail
  refine(aN HC).mono ?_;rintro e w6 ⟨rfl,hP⟩;have HP:=bE hP;clear hP HC;go_wp2;go_ret;exact⟨rfl,aN HP⟩
theorem QH (w:aY)(yb gP n cP i mb rb:Nat)(M:Int)(S:ByteArray)(hM:dQ M)(hn:0<n)(Mm:n<=100000000)(hi:uY M (n:Int)=(i:Int))(c0:w.cell? ⟨yb,0,aC⟩=aE (aJ (aE ⟨gP,0,aC⟩) n cP))(p0:w.cell? ⟨gP,i*2,aC⟩=aE (aK (aE ⟨mb,0,aC⟩)))(p1:w.cell? ⟨gP,i*2+1,aC⟩=aE (aK (aE ⟨rb,0,aC⟩)))(fU:aY->Prop)(Cd:bH aQ 20 #[aK (aE ⟨mb,0,aC⟩),aI S] ((w.alloc (aU #[aH aF 6,aH aF M,aI S] 55)).alloc (aU #[aK (aE ⟨mb,0,aC⟩),aK (aE ⟨rb,0,aC⟩)] 74)).drew λe w3=>∃(tx:ByteArray) (er:Int),e=aM (bC #[aI tx,aH aF er])/\w3.cell? ⟨w.heap.size+1,1,aC⟩=aE (aK (aE ⟨rb,0,aC⟩))/\w3.cell? ⟨w.heap.size,2,aC⟩=aE (aI S)/\bH aQ 39 #[aK (aE ⟨rb,0,aC⟩),aI S] w3 λe w4=>e=aM (bC #[aI tx,aH aF er])/\fU w4):
 bH aQ 22 #[aK (aE ⟨yb,0,aC⟩),bM #[aH aF 6,aH aF M,aI S]] w λe w' =>e=aM (bB aX)/\fU w' :=by
 have nV:=Av (c:=M) (n:=(n:Int)) (by omega);rw[hi] at nV;have i1:(i:Int)<(n:Int):=nV.2;have i0:(0:Int)<=(i:Int):=nV.1;have i5:((n:Int)==0)=aV:=by rw[beq_eq_false_iff_ne];omega
 have TG:=bE (λW:aY=>(show bH aQ 32 #[aH aF M,aH aF n] W λe w' =>e=aM (aH aF i)/\w' =W from by
  have:=zK M (n:Int) W hM.1 hM.2 (by omega) (by omega);rw[show(if M<0 then -(M+1) else M)%(n:Int)=(i:Int) from hi] at this;exact this))
 have z0:=bJ c0 (aU #[aH aF 6,aH aF M,aI S] 55);have z1:(w.alloc (aU #[aH aF 6,aH aF M,aI S] 55)).cell? ⟨w.heap.size,1,aC⟩=aE (aH aF M):=aZ (heap_alloc_new w _) rfl;have zk:(w.alloc (aU #[aH aF 6,aH aF M,aI S] 55)).cell? ⟨w.heap.size,0,aC⟩=aE (aH aF 6):=aZ (heap_alloc_new w _) rfl;have z4:(w.alloc (aU #[aH aF 6,aH aF M,aI S] 55)).cell? ⟨w.heap.size,2,aC⟩=aE (aI S):=aZ (heap_alloc_new w _) rfl;have z2:=bJ p0 (aU #[aH aF 6,aH aF M,aI S] 55);have z3:=bJ p1 (aU #[aH aF 6,aH aF M,aI S] 55);clear hi nV hM hn c0 p0 p1;have HD:=bE Cd;clear Cd;go_enter func22,ntmps22;go_wp2;go_region_held3 (λw' =>w'.cell? ⟨yb,0,aC⟩=aE (aJ (aE ⟨gP,0,aC⟩) n cP)/\w'.cell? ⟨w.heap.size,1,aC⟩=aE (aH aF M)/\w'.cell? ⟨gP,i*2,aC⟩=aE (aK (aE ⟨mb,0,aC⟩))/\w'.cell? ⟨gP,i*2+1,aC⟩=aE (aK (aE ⟨rb,0,aC⟩))) (first|exact⟨z0,z1,z2,z3⟩|exact⟨bJ z0 _,bJ z1 _,bJ z2 _,bJ z3 _⟩|go_keep)
  ((go_simp;refine(aN TG _).mono ?_
    rintro e iF ⟨rfl,mG⟩;subst iF))
 all_goals
  go_wp2_with fail
  refine(aN HD).mono ?_;rintro e w3 ⟨tx,er,rfl,y1,y2,hr⟩;have HR:=bE hr;clear hr HD z0 z1 z2 z3 zk z4;go_wp2_with fail
  refine(aN HR).mono ?_;rintro e w4 ⟨rfl,hP⟩;have HP:=bE hP;clear hP HR y1 y2;go_wp2;go_ret;exact⟨by simp,aN HP⟩
theorem BL (w:aY)(yb gP n cP i mb rb:Nat)(kd M:Int)(Ha:(kd==1)=aV/\(kd==2)=aV/\(kd==3)=aV/\(kd==4)=aV/\(kd==5)=aV/\(kd==6)=aV)(S:ByteArray)(hM:dQ M)(hn:0<n)(Mm:n<=100000000)(hi:uY M (n:Int)=(i:Int))(c0:w.cell? ⟨yb,0,aC⟩=aE (aJ (aE ⟨gP,0,aC⟩) n cP))(p0:w.cell? ⟨gP,i*2,aC⟩=aE (aK (aE ⟨mb,0,aC⟩)))(p1:w.cell? ⟨gP,i*2+1,aC⟩=aE (aK (aE ⟨rb,0,aC⟩)))(fU:aY->Prop)(Cd:fU ((w.alloc (aU #[aH aF kd,aH aF M,aI S] 55)).alloc (aU #[aK (aE ⟨mb,0,aC⟩),aK (aE ⟨rb,0,aC⟩)] 74)).drew):
 bH aQ 22 #[aK (aE ⟨yb,0,aC⟩),bM #[aH aF kd,aH aF M,aI S]] w λe w' =>e=aM (bB aX)/\fU w' :=by
 obtain⟨q1,q2,q3,q4,q5,q6⟩:=Ha;have nV:=Av (c:=M) (n:=(n:Int)) (by omega);rw[hi] at nV;have i1:(i:Int)<(n:Int):=nV.2;have i0:(0:Int)<=(i:Int):=nV.1;have i5:((n:Int)==0)=aV:=by rw[beq_eq_false_iff_ne];omega
 have TG:=bE (λW:aY=>(show bH aQ 32 #[aH aF M,aH aF n] W λe w' =>e=aM (aH aF i)/\w' =W from by
  have:=zK M (n:Int) W hM.1 hM.2 (by omega) (by omega);rw[show(if M<0 then -(M+1) else M)%(n:Int)=(i:Int) from hi] at this;exact this))
 have z0:=bJ c0 (aU #[aH aF kd,aH aF M,aI S] 55);have z1:(w.alloc (aU #[aH aF kd,aH aF M,aI S] 55)).cell? ⟨w.heap.size,1,aC⟩=aE (aH aF M):=aZ (heap_alloc_new w _) rfl;have zk:(w.alloc (aU #[aH aF kd,aH aF M,aI S] 55)).cell? ⟨w.heap.size,0,aC⟩=aE (aH aF kd):=aZ (heap_alloc_new w _) rfl;have z4:(w.alloc (aU #[aH aF kd,aH aF M,aI S] 55)).cell? ⟨w.heap.size,2,aC⟩=aE (aI S):=aZ (heap_alloc_new w _) rfl;have z2:=bJ p0 (aU #[aH aF kd,aH aF M,aI S] 55);have z3:=bJ p1 (aU #[aH aF kd,aH aF M,aI S] 55);clear hi nV hM hn c0 p0 p1;have HD:=bE Cd;clear Cd;go_enter func22,ntmps22;go_wp2;go_region_held3 (λw' =>w'.cell? ⟨yb,0,aC⟩=aE (aJ (aE ⟨gP,0,aC⟩) n cP)/\w'.cell? ⟨w.heap.size,1,aC⟩=aE (aH aF M)/\w'.cell? ⟨gP,i*2,aC⟩=aE (aK (aE ⟨mb,0,aC⟩))/\w'.cell? ⟨gP,i*2+1,aC⟩=aE (aK (aE ⟨rb,0,aC⟩))) (first|exact⟨z0,z1,z2,z3⟩|exact⟨bJ z0 _,bJ z1 _,bJ z2 _,bJ z3 _⟩|go_keep)
  ((go_simp;refine(aN TG _).mono ?_
    rintro e iF ⟨rfl,mG⟩;subst iF))
 all_goals
  go_wp2;go_ret;exact⟨rfl,aN HD⟩
theorem NY:∃i,(aQ).info? 74=aE i/\i.zero=aE (bM #[aK aC,aK aC])/\i.size=2/\i.bytes=16:=nE (by kernel_rfl)
theorem OD (w:aY)(yb n cP B:Nat)(aP:Option Addr)(M:Int)(S:ByteArray)(xs:List aG)(Mm:n<=100000000)(fU:aY->Prop)(Cd:bH aQ 25 #[] (w.alloc (aU #[aH aF 1,aH aF M,aI S] 55)) λe w2=>∃mb,e=aM (aK (aE ⟨mb,0,aC⟩))/\w2.cell? ⟨yb,0,aC⟩=aE (aJ aP n cP)/\
  bH aQ 31 #[] w2.drew λe w3=>∃rb,e=aM (aK (aE ⟨rb,0,aC⟩))/\w3.cell? ⟨yb,0,aC⟩=aE (aJ aP n cP)/\w3.frozen? ⟨yb,0,aC⟩=aV/\w3.ownsRow B 74 2 (aJ aP n cP) n xs/\aE yb≠(aJ aP n cP).ownBlock/\B<=w3.heap.size/\
   ∀(g3 iG:Nat) (w5:aY),(w3.alloc (aU #[aK (aE ⟨mb,0,aC⟩),aK (aE ⟨rb,0,aC⟩)] 74)).grownBy w5 (aJ aP n cP).ownBlock->w5.ownsRow B 74 2 (aJ (aE ⟨g3,0,aC⟩) (n+1) iG) (n+1) (xs++[aK (aE ⟨mb,0,aC⟩),aK (aE ⟨rb,0,aC⟩)])->fU (w5.setCell ⟨yb,0,aC⟩ (aJ (aE ⟨g3,0,aC⟩) (n+1) iG))):
 bH aQ 22 #[aK (aE ⟨yb,0,aC⟩),bM #[aH aF 1,aH aF M,aI S]] w λe w' =>e=aM (bB aX)/\fU w' :=by
 obtain⟨iP,hi,hz,hs,jP⟩:=NY;have zk:(w.alloc (aU #[aH aF 1,aH aF M,aI S] 55)).cell? ⟨w.heap.size,0,aC⟩=aE (aH aF 1):=aZ (heap_alloc_new w _) rfl;have HD:=bE Cd;clear Cd;go_enter func22,ntmps22;go_wp2_with fail
 refine(aN HD).mono ?_;rintro e w2 ⟨mb,rfl,s0,hr⟩;have HR:=bE hr;clear hr HD zk;go_upto_region 3 with (fail)
 refine uR 12 (λw' :aY=>w'.cell? ⟨yb,0,aC⟩=aE (aJ aP n cP)) (by kernel_rfl) s0 (λhc hS=>?_);refine uA 0 (aK (aE ⟨yb,0,aC⟩)) hc hS λhc=>?_
 refine uA 1 (aK (aE ⟨yb,0,aC⟩)) hc hS λhc=>?_
 refine uA 2 (aK (aE ⟨yb,0,aC⟩)) hc hS λhc=>?_
 refine uA 3 (aK (aE ⟨yb,0,aC⟩)) hc hS λhc=>?_
 refine uA 4 (aJ aP n cP) hc hS λhc=>?_
 refine uA 5 (aK (aE ⟨mb,0,aC⟩)) hc hS λhc=>?_
 refine uO 6 (by kernel_rfl) rfl (λK' hK=>?_);go_simp;refine(aN HR).mono ?_;rintro e w3 ⟨rb,rfl,t0,tf,fL,nY,hP⟩;have HP:=bE hP;have OS:=bE fL;clear hP fL HR;refine hK.out _ _ (by exact t0) ?_;clear hK K';have hc:=hc.nx 6 (by kernel_rfl);refine uA 7 (bM #[aK (aE ⟨mb,0,aC⟩),aK (aE ⟨rb,0,aC⟩)]) hc (by exact t0) λhc=>?_
 refine uO 8 (by kernel_rfl) rfl (λK' hK=>?_);go_simp;refine hK.out _ _ (by exact bJ t0 _) ?_;clear hK K';have hc:=hc.nx 8 (by kernel_rfl);refine uO 9 (by kernel_rfl) rfl (λK' hK=>?_);refine step_append_lies _ (by rfl) _ _ 46 (by rfl) B 74 iP (bM #[aK aC,aK aC]) 2 16 underlying46 hi hz hs jP rfl (by decide) (aJ aP n cP) n xs (by rfl) (by exact(aN OS).alloc _) ⟨w3.heap.size,0,aC⟩ 1 1 [aK (aE ⟨mb,0,aC⟩),aK (aE ⟨rb,0,aC⟩)] (by rfl) rfl (aY.news_of_block (heap_alloc_new w3 _)) (λu hu=>by simp at hu;rcases hu with rfl|rfl <;> rfl) (by decide) (by unfold maxLen;omega) (by omega) (by have:=(aN HP).1;simp;omega) _ rfl ?_;intro g3 iG w5 o3 mY t3 l3;have mY:(w3.alloc (aU #[aK (aE ⟨mb,0,aC⟩),aK (aE ⟨rb,0,aC⟩)] 74)).grownBy w5 (aJ aP n cP).ownBlock:=⟨mY.os,mY.tape,mY.output,mY.size,mY.block⟩
 have z1:(w3.alloc (aU #[aK (aE ⟨mb,0,aC⟩),aK (aE ⟨rb,0,aC⟩)] 74)).cell? ⟨yb,0,aC⟩=aE (aJ aP n cP):=bJ t0 _;have z2:(w3.alloc (aU #[aK (aE ⟨mb,0,aC⟩),aK (aE ⟨rb,0,aC⟩)] 74)).frozen? ⟨yb,0,aC⟩=aV:=cY (bU w3 _ aC) t0 tf (by simp);have z5:=cY mY z1 z2 nY;have y0:=mY.cell z1 nY;have G3:=bE (bK mY o3);clear mY o3 t3 z1 z2;refine hK.out _ _ (by exact y0) ?_;clear hK K';have hc:=hc.nx 9 (by kernel_rfl);refine uA 10 (aK (aE ⟨yb,0,aC⟩)) hc (by exact y0) λhc=>?_
 refine uA 11 (aK (aE ⟨yb,0,aC⟩)) hc (by exact y0) λhc=>?_
 refine lA (by kernel_rfl) rfl (λK' hK=>?_);go_simp;refine hK.out _ _ ?_;clear hK K';refine wpAny_done (by kernel_rfl) ?_ _;go_wp2;go_ret;have hp:=aN HP;have hg:=aN G3;exact⟨by simp,hp.2 g3 iG w5 hg.1 hg.2⟩
end
variable {α:Type}
theorem FR {A B:List α}(hA:k<A.length)(hB:k<B.length)(h:A[k]≠B[k]):A≠B:=by
 rintro rfl;exact h rfl
theorem FG {A B:List α}(hA:k<A.length)(hB:k<B.length)(h:A.take k=B.take k)(he:A[k]=B[k]):A.take (k+1)=B.take (k+1):=by
 rw[dF hA,dF hB,h,he]
variable {b n:Nat}{xs:List aG}
theorem ia {o c:Nat}(h:lN w (aJ (aE ⟨b,o,aC⟩) n c) xs):∀k (hk:k<xs.length),w.cell? ⟨b,o+k,aC⟩=aE xs[k]:=by
 rcases h with ⟨h,_⟩|⟨b',o',c',h,_,hc⟩
 ·cases h
 ·injection h with h1 h2 h3;injection h1 with h1;injection h1 with h4 h5;subst h4 h5;exact λk hk=>hc k _ (bL hk)
theorem Tu (b o c b2 o2 c2:Nat)(A B:List (Int))(w:aY)(hl:A.length<=4294967296)(hAB:A.length=B.length)(hA:∀k (hk:k<A.length),w.cell? ⟨b,o+k,aC⟩=aE (aH aF A[k]))(hB:∀k (hk:k<B.length),w.cell? ⟨b2,o2+k,aC⟩=aE (aH aF B[k])):
 bH aQ 34 #[aJ (aE ⟨b,o,aC⟩) A.length c,aJ (aE ⟨b2,o2,aC⟩) A.length c2] w λe w' =>e=aM (bB (decide (A=B)))/\∃n,w' =w.drewN n:=by
 have HA:=bE hA;have HB:=bE hB;have HL:=bE hAB;clear hA hB hAB;go_enter func34,ntmps34;go_wp2
 go_loopw [5] (λi wr=>∃k n:Nat,k<=A.length/\i=aH aF k/\A.take k=B.take k/\wr=w.drewN n) (λi _=>A.length-(intOf i).toNat)
 case atStart=>exact⟨0,0,bZ _,rfl,by simp,rfl⟩
 case round=>
  obtain⟨k,n,hk,rfl,Iz,zZ⟩:=hrel;have Htk:=bE Iz;have Hwr:=bE zZ;clear Iz;by_cases eQ:k<A.length
  ·have EN:k<B.length:=by rw[<-aN HL];exact eQ
   have hcA:wr.cell? ⟨b,o+k,aC⟩=aE (aH aF A[k]):=by rw[zZ];exact aN HA k eQ
   have hcB:wr.cell? ⟨b2,o2+k,aC⟩=aE (aH aF B[k]):=by rw[zZ];exact aN HB k EN
   have i0:(0:Int)<=(k:Int):=by omega
   have i1:(k:Int)<(A.length:Int):=by omega
   clear zZ;by_cases he:A[k]=B[k]
   ·have hb:((A[k]:Int) != B[k])=aV:=by rw[bne_eq_false_iff_eq];exact he
    have He:=bE he;clear he;go_wp2;go_region_held3 (λw' =>w'.cell? ⟨b,o+k,aC⟩=aE (aH aF A[k])/\w'.cell? ⟨b2,o2+k,aC⟩=aE (aH aF B[k])) (first|exact⟨hcA,hcB⟩|go_keep) (fail)
    go_wp2;exact⟨⟨k+1,n+1,by omega,by go_num,FG eQ EN (aN Htk) (aN He),by rw[aN Hwr];rfl⟩,by simp[intOf];omega⟩
   ·have hb:((A[k]:Int) != B[k])=aX:=by rw[bne_iff_ne];exact he
    have He:=bE he;clear he;go_wp2;go_region_held3 (λw' =>w'.cell? ⟨b,o+k,aC⟩=aE (aH aF A[k])/\w'.cell? ⟨b2,o2+k,aC⟩=aE (aH aF B[k])) (first|exact⟨hcA,hcB⟩|go_keep) (fail)
    go_wp2;go_ret;exact⟨mD (decide_eq_false (FR eQ EN (aN He))).symm,n+1,by rw[aN Hwr];rfl⟩
  ·clear zZ;go_wp2;go_ret;refine⟨mD (decide_eq_true ?_).symm,n,aN Hwr⟩;have:=aN Htk;rwa[eB (by omega),eB (by rw[<-aN HL];omega)] at this
theorem XM (a a2:Option Addr)(n n2 c c2:Nat)(w:aY)(h:((n:Int) != (n2:Int))=aX):
 bH aQ 34 #[aJ a n c,aJ a2 n2 c2] w λe w' =>e=aM (bB aV)/\w' =w:=by
 go_enter func34,ntmps34;go_wp2;go_ret;exact⟨rfl,rfl⟩
theorem Yw (a a2:Option Addr)(c c2:Nat)(w:aY):
 bH aQ 34 #[aJ a 0 c,aJ a2 0 c2] w λe w' =>e=aM (bB aX)/\w' =w:=by
 go_enter func34,ntmps34;go_wp2
 go_loop [5] (λi=>i=aH aF 0) (λ_=>0)
 case atStart=>rfl
 case round=>
  obtain rfl:=hrel;go_wp2;go_ret;exact⟨rfl,rfl⟩
theorem Px (b o c b2 o2 c2:Nat)(A B:List (ByteArray))(w:aY)(hl:A.length<=4294967296)(hAB:A.length=B.length)(hA:∀k (hk:k<A.length),w.cell? ⟨b,o+k,aC⟩=aE (aI A[k]))(hB:∀k (hk:k<B.length),w.cell? ⟨b2,o2+k,aC⟩=aE (aI B[k])):
 bH aQ 36 #[aJ (aE ⟨b,o,aC⟩) A.length c,aJ (aE ⟨b2,o2,aC⟩) A.length c2] w λe w' =>e=aM (bB (decide (A=B)))/\∃n,w' =w.drewN n:=by
 have HA:=bE hA;have HB:=bE hB;have HL:=bE hAB;clear hA hB hAB;go_enter func36,ntmps36;go_wp2
 go_loopw [5] (λi wr=>∃k n:Nat,k<=A.length/\i=aH aF k/\A.take k=B.take k/\wr=w.drewN n) (λi _=>A.length-(intOf i).toNat)
 case atStart=>exact⟨0,0,bZ _,rfl,by simp,rfl⟩
 case round=>
  obtain⟨k,n,hk,rfl,Iz,zZ⟩:=hrel;have Htk:=bE Iz;have Hwr:=bE zZ;clear Iz;by_cases eQ:k<A.length
  ·have EN:k<B.length:=by rw[<-aN HL];exact eQ
   have hcA:wr.cell? ⟨b,o+k,aC⟩=aE (aI A[k]):=by rw[zZ];exact aN HA k eQ
   have hcB:wr.cell? ⟨b2,o2+k,aC⟩=aE (aI B[k]):=by rw[zZ];exact aN HB k EN
   have i0:(0:Int)<=(k:Int):=by omega
   have i1:(k:Int)<(A.length:Int):=by omega
   clear zZ;by_cases he:A[k]=B[k]
   ·have hb:(A[k].toList==B[k].toList)=aX:=by rw[beq_iff_eq,he]
    have He:=bE he;clear he;go_wp2;go_region_held3 (λw' =>w'.cell? ⟨b,o+k,aC⟩=aE (aI A[k])/\w'.cell? ⟨b2,o2+k,aC⟩=aE (aI B[k])) (first|exact⟨hcA,hcB⟩|go_keep) (fail)
    go_wp2;exact⟨⟨k+1,n+1,by omega,by go_num,FG eQ EN (aN Htk) (aN He),by rw[aN Hwr];rfl⟩,by simp[intOf];omega⟩
   ·have hb:(A[k].toList==B[k].toList)=aV:=by
     rw[beq_eq_false_iff_ne,Go.ByteArray.toList_eq,Go.ByteArray.toList_eq];intro h;exact he (ByteArray.ext (Array.ext' h))
    have He:=bE he;clear he;go_wp2;go_region_held3 (λw' =>w'.cell? ⟨b,o+k,aC⟩=aE (aI A[k])/\w'.cell? ⟨b2,o2+k,aC⟩=aE (aI B[k])) (first|exact⟨hcA,hcB⟩|go_keep) (fail)
    go_wp2;go_ret;exact⟨mD (decide_eq_false (FR eQ EN (aN He))).symm,n+1,by rw[aN Hwr];rfl⟩
  ·clear zZ;go_wp2;go_ret;refine⟨mD (decide_eq_true ?_).symm,n,aN Hwr⟩;have:=aN Htk;rwa[eB (by omega),eB (by rw[<-aN HL];omega)] at this
theorem VB (a a2:Option Addr)(n n2 c c2:Nat)(w:aY)(h:((n:Int) != (n2:Int))=aX):
 bH aQ 36 #[aJ a n c,aJ a2 n2 c2] w λe w' =>e=aM (bB aV)/\w' =w:=by
 go_enter func36,ntmps36;go_wp2;go_ret;exact⟨rfl,rfl⟩
theorem Uv (a a2:Option Addr)(c c2:Nat)(w:aY):
 bH aQ 36 #[aJ a 0 c,aJ a2 0 c2] w λe w' =>e=aM (bB aX)/\w' =w:=by
 go_enter func36,ntmps36;go_wp2
 go_loop [5] (λi=>i=aH aF 0) (λ_=>0)
 case atStart=>rfl
 case round=>
  obtain rfl:=hrel;go_wp2;go_ret;exact⟨rfl,rfl⟩
def fp (t:TypeId):Prop:=t=3\/t=9\/t=26\/t=23
def ZU (t:TypeId):Prop:=t=52\/t=74\/t=82\/t=84
theorem wS (h:ZU t):¬Dc t/\¬fp t/\t≠180/\t≠107/\t≠101:=by
 unfold Dc fp;rcases h with rfl|rfl|rfl|rfl <;> decide
def Xp (yb:Nat) (vP vA vB:aG):Nat->Prop:=λk=>k=yb\/vP.ownBlock=aE k\/vA.ownBlock=aE k\/vB.ownBlock=aE k
section
variable {t:Nat}{ps:List Pr}{la lb:List aG}
theorem jG.Wu (h:jG B w yb t ps vP vA vB la lb K)(hx:Xp yb vP vA vB k):B<=k/\∃cs t fr,w.heap[k]?=aE (aU cs t fr)/\ZU t:=by
 rcases hx with rfl|e|e|e
 ·exact⟨h.yB,_,_,_,h.y,.inl rfl⟩
 ·obtain⟨_,hc⟩:=cJ h.Ex e;exact⟨(h.Ex.lt _ e).1,_,_,_,hc,.inr (.inl rfl)⟩
 ·obtain⟨_,hc⟩:=cJ h.Dw e;exact⟨(h.Dw.lt _ e).1,_,_,_,hc,.inr (.inr (.inl rfl))⟩
 ·obtain⟨_,hc⟩:=cJ h.Dt e;exact⟨(h.Dt.lt _ e).1,_,_,_,hc,.inr (.inr (.inr rfl))⟩
theorem jG.redo {t' :Nat}{qs:List Pr}{sU pI Ci :aG}{xa xb:List aG}{Kn:Nat->Prop}(h:jG B w yb t ps vP vA vB la lb K)(hm:Mv (Xp yb vP vA vB) w w')(ht:t<=t')(hy:w'.heap[yb]?=aE (aU #[sU,pI,Ci] 52))(hp:w'.ownsRow B 74 2 sU (ps++qs).length (lX (ps++qs)))(ha:w'.ownsRow B 82 1 pI (la++xa).length (la++xa))(hb:w'.ownsRow B 84 1 Ci (lb++xb).length (lb++xb))(Jv:∀(i:Nat) (v:aG),xa[i]?=aE v->qZ w' 26 (aH aF (-7070-((la.length+i:Nat):Int))) v Kn)(oN:∀(i:Nat) (v:aG),xb[i]?=aE v->qZ w' 23 (aI ⟨(Ck (lb.length+i)).toArray⟩) v Kn)(hq1:qs.length<=1)(hq:∀q∈qs,rA w' q/\(∀k,q.T k->w.heap.size<=k/\¬Kn k)/\q.m.all.length<=501*t')(hK:∀k,Kn k->w.heap.size<=k/\k<w'.heap.size/\∃cs t fr,w'.heap[k]?=aE (aU cs t fr)/\fp t)(hf:(ps++qs).length<=t' /\(la++xa).length<=t' /\(lb++xb).length<=t'):
 jG B w' yb t' (ps++qs) sU pI Ci (la++xa) (lb++xb) (λk=>K k\/Kn k):=by
 have TB:KY w (Xp yb vP vA vB):=wZ h.tb λk hk=>by
  obtain⟨h1,cs,tt,fr,hc,hT⟩:=h.Wu hk;exact⟨h1,cs,tt,fr,hc,(wS hT).2.2⟩
 have keepM:∀p∈ps,rA w' p:=λp hp=>(h.pr p hp).1.GG TB (λk hk hx=>by
  obtain⟨_,_,_,hc,hM⟩:=(h.pr p hp).1.typed hk;obtain⟨_,_,_,_,P0,hT⟩:=h.Wu hx;rw[cM hc P0] at hM;exact(wS hT).1 hM) hm
 have SX:∀k,K k->w'.heap[k]?=w.heap[k]?:=λk hk=>hm.block k (h.kB k hk).2.1 λhx=>by
  obtain⟨_,_,_,_,_,hc,hR⟩:=h.kB k hk;obtain⟨_,_,_,_,P0,hT⟩:=h.Wu hx;rw[cM hc P0] at hR;exact(wS hT).2.1 hR
 refine⟨hy,h.yB,hp,ha,hb,λi v hv=>?_,λi v hv=>?_,λp hp=>?_,?_,λp hp k hk=>?_,λk hk=>?_,hf,h.tb,cF h.hB hm.size⟩
 ·rw[List.getElem?_append] at hv
  split at hv
  ·exact((h.al i v hv).kept SX).mono λk hk=>.inl hk
  ·have:=(Jv _ v hv).mono (K' :=λk=>K k\/Kn k) λk hk=>.inr hk
   rwa[show la.length+(i-la.length)=i by omega] at this
 ·rw[List.getElem?_append] at hv
  split at hv
  ·exact((h.bl i v hv).kept SX).mono λk hk=>.inl hk
  ·have:=(oN _ v hv).mono (K' :=λk=>K k\/Kn k) λk hk=>.inr hk
   rwa[show lb.length+(i-lb.length)=i by omega] at this
 ·rcases List.mem_append.1 hp with x|x
  ·exact⟨keepM p x,(h.pr p x).2.1,by have:=(h.pr p x).2.2;omega⟩
  ·obtain⟨q1,q2,q3⟩:=hq p x;exact⟨q1,λk hk=>cF h.hB (q2 k hk).1,q3⟩
 ·intro i j p q hi hj hij k hk tC;have key:∀a b (p q:Pr),ps[a]?=aE p->(ps++qs)[b]?=aE q->¬b<ps.length->∀k,p.T k->¬q.T k:=λa b p q h1 h2 h3 k hk tC=>by
   rw[bP (by omega)] at h2;have:=(hq q (cG h2)).2.1 k tC;have:=(h.pr p (cG h1)).1.lt k hk;omega
  by_cases SD:i<ps.length
  ·have hi' :ps[i]?=aE p:=by rwa[bT SD] at hi
   by_cases R1:j<ps.length
   ·rw[bT R1] at hj;exact h.ap i j p q hi' hj hij k hk tC
   ·exact key i j p q hi' hj R1 k hk tC
  ·by_cases R1:j<ps.length
   ·have hj' :ps[j]?=aE q:=by rwa[bT R1] at hj
    exact key j i q p hj' hi SD k tC hk
   ·have h1:=(bI.1 hi).1;have h2:=(bI.1 hj).1;rw[bN] at h1 h2;omega
 ·rcases List.mem_append.1 hp with x|x
  ·rintro(y|y)
   ·exact h.kp p x k hk y
   ·have:=(h.pr p x).1.lt k hk;have:=(hK k y).1;omega
  ·rintro(y|y)
   ·have:=((hq p x).2.1 k hk).1;have:=(h.kB k y).2.1;omega
   ·exact((hq p x).2.1 k hk).2 y
 ·rcases hk with x|x
  ·obtain⟨h1,h2,cs,tt,fr,hc,hR⟩:=h.kB k x;exact⟨h1,eC h2 hm.size,cs,tt,fr,(SX k x).trans hc,hR⟩
  ·obtain⟨h1,h2,h3⟩:=hK k x;exact⟨cF h.hB h1,h2,h3⟩
end
def kN (B:Nat) (w:aY) (yb t:Nat):Prop:=∃ps vP vA vB la lb K,jG B w yb t ps vP vA vB la lb K/\0<ps.length
theorem Cg.aside (h:Cg w mb F m):bH aQ 17 #[aK (aE ⟨mb,0,aC⟩)] w λr w' =>∃v,r=aM v/\w'.ownsRow w.heap.size 3 1 v m.R.length (m.R.map (aH aF))/\bA w.heap.size w w' :=by
 obtain⟨vO,vB,vS,vR,wv,h,rfl⟩:=h;exact Vx w mb _ vR m.R (aZ h.n.mc rfl) h.n.rt h.n.rl
theorem Bo (n:Nat)(w:aY):bA w.heap.size w (w.drewN n):=⟨rfl,rfl,rfl,bD _,λ_ _=>rfl⟩
theorem Fj (w:aY)(b1 b2:Nat)(v1 v2:aG)(S:List Int)(hl:S.length<=4294967296)(h1:w.ownsRow b1 3 1 v1 S.length (S.map (aH aF)))(h2:w.ownsRow b2 3 1 v2 S.length (S.map (aH aF))):
 bH aQ 34 #[v1,v2] w λr w' =>r=aM (bB aX)/\bA w.heap.size w w' :=by
 by_cases h0:S.length=0
 ·obtain⟨a1,c1,rfl,_,_⟩:=cU h1;obtain⟨a2,c2,rfl,_,_⟩:=cU h2;rw[h0];refine(Yw a1 a2 c1 c2 w).mono ?_;rintro r w' ⟨rfl,hw⟩;subst hw;exact⟨rfl,bF _ _⟩
 ·obtain⟨g1,c1,rfl,_,_⟩:=h1.form (by omega);obtain⟨g2,c2,rfl,_,_⟩:=h2.form (by omega);have key:∀{b g c:Nat},w.ownsRow b 3 1 (aJ (aE ⟨g,0,aC⟩) S.length c) S.length (S.map (aH aF))->∀k (hk:k<S.length),w.cell? ⟨g,0+k,aC⟩=aE (aH aF S[k]):=λh k hk=>by
   have:=h.cells (g:=_) rfl k (aH aF S[k]) (by rw[cI,bL hk];rfl);rwa[fE] at this
  refine(Tu g1 0 c1 g2 0 c2 S S w hl rfl (key h1) (key h2)).mono ?_;rintro r w' ⟨rfl,n,rfl⟩;exact⟨by simp,Bo n w⟩
theorem Pq (w:aY)(b1 b2:Nat)(v1 v2:aG)(S:List ByteArray)(hl:S.length<=4294967296)(h1:w.ownsRow b1 9 1 v1 S.length (S.map aI))(h2:w.ownsRow b2 9 1 v2 S.length (S.map aI)):
 bH aQ 36 #[v1,v2] w λr w' =>r=aM (bB aX)/\bA w.heap.size w w' :=by
 by_cases h0:S.length=0
 ·obtain⟨a1,c1,rfl,_,_⟩:=cU h1;obtain⟨a2,c2,rfl,_,_⟩:=cU h2;rw[h0];refine(Uv a1 a2 c1 c2 w).mono ?_;rintro r w' ⟨rfl,hw⟩;subst hw;exact⟨rfl,bF _ _⟩
 ·obtain⟨g1,c1,rfl,_,_⟩:=h1.form (by omega);obtain⟨g2,c2,rfl,_,_⟩:=h2.form (by omega);have key:∀{b g c:Nat},w.ownsRow b 9 1 (aJ (aE ⟨g,0,aC⟩) S.length c) S.length (S.map aI)->∀k (hk:k<S.length),w.cell? ⟨g,0+k,aC⟩=aE (aI S[k]):=λh k hk=>by
   have:=h.cells (g:=_) rfl k (aI S[k]) (by rw[cI,bL hk];rfl);rwa[fE] at this
  refine(Px g1 0 c1 g2 0 c2 S S w hl rfl (key h1) (key h2)).mono ?_;rintro r w' ⟨rfl,n,rfl⟩;exact⟨by simp,Bo n w⟩
theorem tK (w:aY)(o1 o2:Obj):bA w.heap.size w ((w.alloc o1).alloc o2).drew/\((w.alloc o1).alloc o2).drew.heap[w.heap.size]?=aE o1/\((w.alloc o1).alloc o2).drew.heap[w.heap.size+1]?=aE o2:=by
 have hb:bA w.heap.size w (w.alloc o1):=(bF _ _).alloc (bD _) _;refine⟨(hb.alloc hb.size _).drew,?_,lF w o1 o2⟩;show((w.alloc o1).alloc o2).heap[w.heap.size]?=aE o1;rw[bA.heap_alloc _ _ _ (cC (heap_alloc_new w o1))];exact heap_alloc_new w o1
section
variable {t:Nat}{ps:List Pr}{la lb:List aG}
theorem jG.Lb (h:jG B w yb t ps vP vA vB la lb K)(hn:0<ps.length)(M:Int):∃(i:Nat) (p:Pr) (g cap:Nat),uY M (ps.length:Int)=(i:Int)/\ps[i]?=aE p/\w.cell? ⟨g,i*2,aC⟩=aE (aK (aE ⟨p.mb,0,aC⟩))/\w.cell? ⟨g,i*2+1,aC⟩=aE (aK (aE ⟨p.rb,0,aC⟩))/\w.cell? ⟨yb,0,aC⟩=aE (aJ (aE ⟨g,0,aC⟩) ps.length cap):=by
 have nV:=Av (c:=M) (n:=(ps.length:Int)) (by omega);obtain⟨i,hi⟩:∃i:Nat,uY M (ps.length:Int)=(i:Int):=⟨(uY M (ps.length:Int)).toNat,by omega⟩
 have eQ:i<ps.length:=by omega
 obtain⟨g,cap,hv,c0,c1⟩:=h.pair (bL eQ);refine⟨i,_,g,cap,hi,bL eQ,c0,c1,?_⟩;rw[<-hv];exact aZ h.y rfl
theorem jG.kR (h:jG B w yb t ps vP vA vB la lb K)(hn:0<ps.length)(ht:t<=2000000)(M:Int)(hM:dQ M)(S:ByteArray):
 bH aQ 22 #[aK (aE ⟨yb,0,aC⟩),bM #[aH aF 2,aH aF M,aI S]] w λe w' =>e=aM (bB aX)/\(kN B w' yb (t+1)/\bA B w w'):=by
 obtain⟨i,p,g,cap,hi,hp,p0,p1,c0⟩:=h.Lb hn M;have oM:=cG hp;refine VT w yb g ps.length cap i p.mb p.rb M S hM hn (by have:=h.vI;omega) hi c0 p0 p1 _ ?_;obtain⟨fF,q0,q1⟩:=tK w (aU #[aH aF 2,aH aF M,aI S] 55) (aU #[aK (aE ⟨p.mb,0,aC⟩),aK (aE ⟨p.rb,0,aC⟩)] 74)
 revert fF q0 q1
 generalize((w.alloc (aU #[aH aF 2,aH aF M,aI S] 55)).alloc (aU #[aK (aE ⟨p.mb,0,aC⟩),aK (aE ⟨p.rb,0,aC⟩)] 74)).drew=w1;intro fF q0 q1;have h1:=h.below fF;have hfl:=(h.pr p oM).1.lt;obtain⟨⟨Va,Vn,wM,hap⟩,hTB,hlen⟩:=h1.pr p oM;refine(Va.do S (by omega)).mono ?_;rintro r w3 ⟨rfl,F',hF',pL,Gw⟩;have hs3:=pL.size;have NP:=fF.size;have k3:∀k,w.heap.size<=k->k<w1.heap.size->w3.heap[k]?=w1.heap[k]?:=λk h1 h2=>pL.block k h2 λx=>by
  have:=hfl k (.inl x);omega
 refine⟨_,_,_,rfl,aZ ((k3 _ (by omega) (cC q1)).trans q1) rfl,aZ ((k3 _ (bD _) (cC q0)).trans q0) rfl,?_⟩;have q4:=heap_alloc_new w3 (aU #[aI ⟨(N.jL p.m S.data.toList).2.1.toArray⟩,aH aF (N.jL p.m S.data.toList).2.2.1,aH aF ((N.jL p.m S.data.toList).2.2.2:Int)] 36);have rM:bA w3.heap.size w3 (w3.alloc (aU #[aI ⟨(N.jL p.m S.data.toList).2.1.toArray⟩,aH aF (N.jL p.m S.data.toList).2.2.1,aH aF ((N.jL p.m S.data.toList).2.2.2:Int)] 36)):=(bF _ _).alloc (bD _) _
 revert q4 rM
 generalize w3.alloc (aU #[aI ⟨(N.jL p.m S.data.toList).2.1.toArray⟩,aH aF (N.jL p.m S.data.toList).2.2.1,aH aF ((N.jL p.m S.data.toList).2.2.2:Int)] 36)=w4;intro q4 rM;have hs4:=rM.size;have bw:Nh w3 p.rb p.G p.m:=Vn.GG (wZ h.tb λk hk=>⟨hTB k (.inl hk),by
  obtain⟨cs,tt,fr,hc,hT⟩:=Va.typed hk;have:=Gh hT;exact⟨cs,tt,fr,hc,this.1,this.2.1,this.2.2.1⟩⟩) (λk hk hx=>hap k hx hk) pL
 have af:=bw.below rM;have hF4:=hF'.below rM;have ej :=AU p.m S.data.toList wM (by omega);have href4' :=af;obtain⟨vA0,vS0,vR0,bs,hR,hG⟩:=af;refine(WL _ p.rb vA0 vS0 vR0 bs p.m S hR wM (by omega)).mono ?_;rintro r w5 ⟨rfl,bs',pI,pU,xM,hR',ZK,hfr5⟩;rw[<-hG] at ZK hfr5;have eP:=(ZK.block _ (cC q4) λx=>by have:=bw.lt _ x;omega).trans q4;refine⟨rfl,aZ eP rfl,aZ eP rfl,aZ eP rfl,λW hW=>?_⟩;have hGlt:∀k,p.G k->k<w1.heap.size:=Vn.lt;have hmvT:Mv p.T w1 w5:=((pL.weaken (T' :=p.T) λk hk=>.inl hk).trans (T' :=p.T) (dG.refl _ _) (Mv.dS rM _)).trans (T' :=p.G) (λk hk=>.inl (.inr hk)) ZK;have SK:rA w5 ⟨p.mb,p.rb,F',dV p.rb pI pU xM,(N.jL p.m S.data.toList).1⟩:=by
  refine⟨hF4.GG (wZ h.tb λk hk=>⟨hTB k (.inr hk),?_⟩) (λk hk hx=>?_) ZK,⟨pI,pU,xM,bs',hR',rfl⟩,ej.1,λk hk hg=>?_⟩
  ·obtain⟨cs,tt,fr,hc,hT⟩:=href4'.typed hk;have:=Gh hT;exact⟨cs,tt,fr,hc,this.1,this.2.1,this.2.2.1⟩
  ·rcases Gw k hk with x|x
   ·exact hap k x hx
   ·have:=hGlt k hx;omega
  ·have hklt:=hF'.lt k hk;rcases hfr5 k hg with y|y
   ·rcases Gw k hk with x|x
    ·exact hap k x y
    ·have:=hGlt k y;omega
   ·omega
 have hfrT:dG w1 p.T (Pr.T ⟨p.mb,p.rb,F',dV p.rb pI pU xM,(N.jL p.m S.data.toList).1⟩):=λk hk=>by
  rcases hk with hk|hk
  ·rcases Gw k hk with x|x
   ·exact .inl (.inl x)
   ·exact .inr x
  ·rcases hfr5 k hk with x|x
   ·exact .inl (.inr x)
   ·right
    omega
 have Lc:=((h1.later (Nat.le_succ t)).turn (p' :=⟨p.mb,p.rb,F',dV p.rb pI pU xM,(N.jL p.m S.data.toList).1⟩) hp rfl rfl (λk hk=>hk) hmvT hfrT SK (by have:=ej.2;show(N.jL p.m S.data.toList).1.all.length<=_;omega)).below hW;exact⟨⟨_,_,_,_,_,_,_,Lc,by rw[List.length_set];exact hn⟩,(fF.mono h.hB).trans ((hmvT.below hTB h1.hB).trans (hW.mono (cF h1.hB hmvT.size)))⟩
theorem jG.P8 (h:jG B w yb t ps vP vA vB la lb K){w4:aY}(rM:bA w.heap.size w w4)(hn:0<ps.length)(ht:t<=2000000)(av:Option Addr)(n cv:Nat)(xs:List aG)(hl:w4.ownsRow w.heap.size 3 1 (aJ av n cv) n xs)(hn5:n<=50):
 bH aQ 35 #[aK (aE ⟨yb,1,aC⟩),aJ av n cv] w4 λe w' =>e=aM (bC #[])/\(kN B w' yb (t+1)/\bA B w w'):=by
 have h4:=h.below rM;have hf:=h.vI;obtain⟨aB,cB,hv,_⟩:=cU h4.Dw;subst hv;refine(RX w4 yb B aB la.length cB la av n cv xs #[vP,aJ aB la.length cB,vB] _ rfl h4.y rfl h4.Dw (tP hl h.hB) hn5 (by omega) h4.hB).mono ?_;rintro e w' ⟨rfl,v',nv,hy,fL,yP,fK,pL⟩;have Dl:∀k,(aJ av n cv).ownBlock=aE k->w.heap.size<=k:=λk e=>(hl.lt k e).1
 have da:∀{k:Nat} {cs:Array aG} {tt:TypeId} {fr:Nat×Nat},w4.heap[k]?=aE (aU cs tt fr)->tt≠52->tt≠82->tt≠3->w'.heap[k]?=w4.heap[k]?:=λhc t1 t2 t3=>pL.block _ (cC hc) λhx=>by
  rcases hx with hx|e|e
  ·rw[hx] at hc;exact t1 (cM hc h4.y)
  ·obtain⟨_,h'⟩:=cJ h4.Dw e;exact t2 (cM hc h')
  ·obtain⟨_,h'⟩:=cJ hl e;exact t3 (cM hc h')
 have CW:Mv (Xp yb vP (aJ aB la.length cB) vB) w w' :=(Mv.dS rM _).trans (λk hk=>by
  rcases hk with hx|e|e
  ·exact .inl (.inl hx)
  ·exact .inl (.inr (.inr (.inl e)))
  ·exact .inr (Dl k e)) pL
 have hs4:=rM.size;refine⟨rfl,⟨_,_,_,_,_,_,_,h.redo (qs:=[]) (xa:=[nv]) (xb:=[]) (Kn:=λk=>(w4.heap.size<=k\/(aJ av n cv).ownBlock=aE k)/\Od w' 3 26 k) CW (Nat.le_succ t) (by simpa using hy) (by rw[List.append_nil];exact cV h4.Ex λk e=>by obtain⟨_,hc⟩:=cJ h4.Ex e;exact da hc (by decide) (by decide) (by decide)) (by rw[bN];exact fL) (by rw[List.append_nil];exact cV h4.Dt λk e=>by obtain⟨_,hc⟩:=cJ h4.Dt e;exact da hc (by decide) (by decide) (by decide)) (λi v hv=>by
  cases i with
  |zero=>
   have:nv=v:=by simpa using hv
   subst this;exact yP
  |succ i=>simp at hv) (λi v hv=>by simp at hv) (by simp) (λq hq=>by simp at hq) (λk hk=>?_) (by simp only[bN,cX,List.length_nil];omega),by simpa using hn⟩,?_⟩
 ·obtain⟨hk,cs,tt,fr,hc,hT⟩:=hk;refine⟨?_,cC hc,cs,tt,fr,hc,?_⟩
  ·rcases hk with x|x
   ·omega
   ·exact Dl k x
  ·rcases hT with rfl|rfl
   ·exact .inl rfl
   ·exact .inr (.inr (.inl rfl))
 ·exact(rM.mono h.hB).trans (pL.below (λk hk=>by
   rcases hk with hx|e|e
   ·rw[hx];exact h.yB
   ·exact(h4.Dw.lt k e).1
   ·exact cF h.hB (Dl k e)) h4.hB)
theorem jG.MJ (h:jG B w yb t ps vP vA vB la lb K){w4:aY}(rM:bA w.heap.size w w4)(hn:0<ps.length)(ht:t<=2000000)(av:Option Addr)(n cv:Nat)(xs:List aG)(hl:w4.ownsRow w.heap.size 9 1 (aJ av n cv) n xs)(hn5:n<=50):
 bH aQ 38 #[aK (aE ⟨yb,1,aC⟩),aJ av n cv] w4 λe w' =>e=aM (bC #[])/\(kN B w' yb (t+1)/\bA B w w'):=by
 have h4:=h.below rM;have hf:=h.vI;obtain⟨aB,cB,hv,_⟩:=cU h4.Dt;subst hv;refine(IV w4 yb B aB lb.length cB lb av n cv xs #[vP,vA,aJ aB lb.length cB] _ rfl h4.y rfl h4.Dt (tP hl h.hB) hn5 (by omega) h4.hB).mono ?_;rintro e w' ⟨rfl,v',nv,hy,fL,yP,fK,pL⟩;have Dl:∀k,(aJ av n cv).ownBlock=aE k->w.heap.size<=k:=λk e=>(hl.lt k e).1
 have da:∀{k:Nat} {cs:Array aG} {tt:TypeId} {fr:Nat×Nat},w4.heap[k]?=aE (aU cs tt fr)->tt≠52->tt≠84->tt≠9->w'.heap[k]?=w4.heap[k]?:=λhc t1 t2 t3=>pL.block _ (cC hc) λhx=>by
  rcases hx with hx|e|e
  ·rw[hx] at hc;exact t1 (cM hc h4.y)
  ·obtain⟨_,h'⟩:=cJ h4.Dt e;exact t2 (cM hc h')
  ·obtain⟨_,h'⟩:=cJ hl e;exact t3 (cM hc h')
 have CW:Mv (Xp yb vP vA (aJ aB lb.length cB)) w w' :=(Mv.dS rM _).trans (λk hk=>by
  rcases hk with hx|e|e
  ·exact .inl (.inl hx)
  ·exact .inl (.inr (.inr (.inr e)))
  ·exact .inr (Dl k e)) pL
 have hs4:=rM.size;refine⟨rfl,⟨_,_,_,_,_,_,_,h.redo (qs:=[]) (xa:=[]) (xb:=[nv]) (Kn:=λk=>(w4.heap.size<=k\/(aJ av n cv).ownBlock=aE k)/\Od w' 9 23 k) CW (Nat.le_succ t) (by simpa using hy) (by rw[List.append_nil];exact cV h4.Ex λk e=>by obtain⟨_,hc⟩:=cJ h4.Ex e;exact da hc (by decide) (by decide) (by decide)) (by rw[List.append_nil];exact cV h4.Dw λk e=>by obtain⟨_,hc⟩:=cJ h4.Dw e;exact da hc (by decide) (by decide) (by decide)) (by rw[bN];exact fL) (λi v hv=>by simp at hv) (λi v hv=>by
  cases i with
  |zero=>
   have:nv=v:=by simpa using hv
   subst this;exact yP
  |succ i=>simp at hv) (by simp) (λq hq=>by simp at hq) (λk hk=>?_) (by simp only[bN,cX,List.length_nil];omega),by simpa using hn⟩,?_⟩
 ·obtain⟨hk,cs,tt,fr,hc,hT⟩:=hk;refine⟨?_,cC hc,cs,tt,fr,hc,?_⟩
  ·rcases hk with x|x
   ·omega
   ·exact Dl k x
  ·rcases hT with rfl|rfl
   ·exact .inr (.inl rfl)
   ·exact .inr (.inr (.inr rfl))
 ·exact(rM.mono h.hB).trans (pL.below (λk hk=>by
   rcases hk with hx|e|e
   ·rw[hx];exact h.yB
   ·exact(h4.Dt.lt k e).1
   ·exact cF h.hB (Dl k e)) h4.hB)
theorem jG.stacks (h:jG B w yb t ps vP vA vB la lb K)(hn:0<ps.length)(ht:t<=2000000)(M:Int)(hM:dQ M)(S:ByteArray):
 bH aQ 22 #[aK (aE ⟨yb,0,aC⟩),bM #[aH aF 3,aH aF M,aI S]] w λe w' =>e=aM (bB aX)/\(kN B w' yb (t+1)/\bA B w w'):=by
 obtain⟨i,p,g,cap,hi,hp,p0,p1,c0⟩:=h.Lb hn M;have oM:=cG hp;refine AB w yb g ps.length cap i p.mb p.rb M S hM hn (by have:=h.vI;omega) hi c0 p0 p1 _ ?_;obtain⟨fF,q0,q1⟩:=tK w (aU #[aH aF 3,aH aF M,aI S] 55) (aU #[aK (aE ⟨p.mb,0,aC⟩),aK (aE ⟨p.rb,0,aC⟩)] 74)
 revert fF q0 q1
 generalize((w.alloc (aU #[aH aF 3,aH aF M,aI S] 55)).alloc (aU #[aK (aE ⟨p.mb,0,aC⟩),aK (aE ⟨p.rb,0,aC⟩)] 74)).drew=w1;intro fF _ q1;have h1:=h.below fF;obtain⟨⟨Va,Vn,wM,hap⟩,hTB,hlen⟩:=h1.pr p oM;refine Va.stack.mono ?_;rintro r w3 ⟨v,rfl,fL,eW⟩;obtain⟨a,c,rfl,_⟩:=cU fL;obtain⟨vA0,vS0,vR0,bs,hR,_⟩:=Vn.below eW;obtain⟨aS,cS,vJ,_⟩:=cU hR.st;have xJ:=hR.sl;refine⟨a,aS,_,c,_,cS,rfl,aZ ((eW.block _ (cC q1)).trans q1) rfl,aZ hR.mc (by rw[vJ];rfl),?_⟩;rw[<-vJ];refine(Fj w3 _ _ _ _ p.m.S (by omega) fL hR.st).mono ?_;rintro r w4 ⟨rfl,rM⟩;refine⟨rfl,?_⟩;exact h.P8 (fF.trans ((eW.trans (rM.mono eW.size)).mono fF.size)) hn ht a _ c _ (tP (cV fL λk e=>rM.block k (mC fL e)) fF.size) (by omega)
theorem jG.asides (h:jG B w yb t ps vP vA vB la lb K)(hn:0<ps.length)(ht:t<=2000000)(M:Int)(hM:dQ M)(S:ByteArray):
 bH aQ 22 #[aK (aE ⟨yb,0,aC⟩),bM #[aH aF 4,aH aF M,aI S]] w λe w' =>e=aM (bB aX)/\(kN B w' yb (t+1)/\bA B w w'):=by
 obtain⟨i,p,g,cap,hi,hp,p0,p1,c0⟩:=h.Lb hn M;have oM:=cG hp;refine AN w yb g ps.length cap i p.mb p.rb M S hM hn (by have:=h.vI;omega) hi c0 p0 p1 _ ?_;obtain⟨fF,q0,q1⟩:=tK w (aU #[aH aF 4,aH aF M,aI S] 55) (aU #[aK (aE ⟨p.mb,0,aC⟩),aK (aE ⟨p.rb,0,aC⟩)] 74)
 revert fF q0 q1
 generalize((w.alloc (aU #[aH aF 4,aH aF M,aI S] 55)).alloc (aU #[aK (aE ⟨p.mb,0,aC⟩),aK (aE ⟨p.rb,0,aC⟩)] 74)).drew=w1;intro fF _ q1;have h1:=h.below fF;obtain⟨⟨Va,Vn,wM,hap⟩,hTB,hlen⟩:=h1.pr p oM;refine Va.aside.mono ?_;rintro r w3 ⟨v,rfl,fL,eW⟩;obtain⟨a,c,rfl,_⟩:=cU fL;obtain⟨vA0,vS0,vR0,bs,hR,_⟩:=Vn.below eW;obtain⟨aS,cS,vJ,_⟩:=cU hR.rt;have xJ:=hR.rl;refine⟨a,aS,_,c,_,cS,rfl,aZ ((eW.block _ (cC q1)).trans q1) rfl,aZ hR.mc (by rw[vJ];rfl),?_⟩;rw[<-vJ];refine(Fj w3 _ _ _ _ p.m.R (by omega) fL hR.rt).mono ?_;rintro r w4 ⟨rfl,rM⟩;refine⟨rfl,?_⟩;exact h.P8 (fF.trans ((eW.trans (rM.mono eW.size)).mono fF.size)) hn ht a _ c _ (tP (cV fL λk e=>rM.block k (mC fL e)) fF.size) (by omega)
theorem jG.words (h:jG B w yb t ps vP vA vB la lb K)(hn:0<ps.length)(ht:t<=2000000)(M:Int)(hM:dQ M)(S:ByteArray):
 bH aQ 22 #[aK (aE ⟨yb,0,aC⟩),bM #[aH aF 5,aH aF M,aI S]] w λe w' =>e=aM (bB aX)/\(kN B w' yb (t+1)/\bA B w w'):=by
 obtain⟨i,p,g,cap,hi,hp,p0,p1,c0⟩:=h.Lb hn M;have oM:=cG hp;refine Z6 w yb g ps.length cap i p.mb p.rb M S hM hn (by have:=h.vI;omega) hi c0 p0 p1 _ ?_;obtain⟨fF,q0,q1⟩:=tK w (aU #[aH aF 5,aH aF M,aI S] 55) (aU #[aK (aE ⟨p.mb,0,aC⟩),aK (aE ⟨p.rb,0,aC⟩)] 74)
 revert fF q0 q1
 generalize((w.alloc (aU #[aH aF 5,aH aF M,aI S] 55)).alloc (aU #[aK (aE ⟨p.mb,0,aC⟩),aK (aE ⟨p.rb,0,aC⟩)] 74)).drew=w1;intro fF _ q1;have h1:=h.below fF;obtain⟨⟨Va,Vn,wM,hap⟩,hTB,hlen⟩:=h1.pr p oM;refine Va.words.mono ?_;rintro r w3 ⟨v,rfl,fL,eW,hle⟩;obtain⟨a,c,rfl,_⟩:=cU fL;obtain⟨vA0,vS0,vR0,bs,hR,_⟩:=Vn.below eW;refine⟨a,_,c,rfl,aZ ((eW.block _ (cC q1)).trans q1) rfl,?_⟩;refine(S5 w3 p.rb vA0 vS0 vR0 bs p.m hR).mono ?_;rintro r w4 ⟨v,rfl,bv,rM⟩;refine⟨v,rfl,?_⟩;have hT:(N.words p.m).map mQ=((N.words p.m).map λl=>(⟨l.toArray⟩:ByteArray)).map aI:=by rw[List.map_map];rfl
 have hT2:xK (N.words p.m)=((N.words p.m).map λl=>(⟨l.toArray⟩:ByteArray)).map aI:=by unfold xK;rw[List.map_map];rfl
 have VJ:((N.words p.m).map λl=>(⟨l.toArray⟩:ByteArray)).length=(N.words p.m).length:=dO ..;have SI :=cV fL λk e=>rM.block k (mC fL e)
 have r1:=SI;rw[hT,<-VJ] at r1;rw[hT2,<-VJ] at bv;have r3:=Pq w4 _ _ _ _ _ (by omega) r1 bv;rw[VJ] at r3;refine r3.mono ?_;rintro r w5 ⟨rfl,hb5⟩;refine⟨rfl,?_⟩;exact h.MJ (fF.trans ((eW.trans ((rM.trans (hb5.mono rM.size)).mono eW.size)).mono fF.size)) hn ht a _ c _ (tP (cV SI λk e=>hb5.block k (mC SI e)) fF.size) (by omega)
theorem jG.sees (h:jG B w yb t ps vP vA vB la lb K)(hn:0<ps.length)(ht:t<=2000000)(M:Int)(hM:dQ M)(S:ByteArray):
 bH aQ 22 #[aK (aE ⟨yb,0,aC⟩),bM #[aH aF 6,aH aF M,aI S]] w λe w' =>e=aM (bB aX)/\(kN B w' yb (t+1)/\bA B w w'):=by
 obtain⟨i,p,g,cap,hi,hp,p0,p1,c0⟩:=h.Lb hn M;have oM:=cG hp;refine QH w yb g ps.length cap i p.mb p.rb M S hM hn (by have:=h.vI;omega) hi c0 p0 p1 _ ?_;obtain⟨fF,q0,q1⟩:=tK w (aU #[aH aF 6,aH aF M,aI S] 55) (aU #[aK (aE ⟨p.mb,0,aC⟩),aK (aE ⟨p.rb,0,aC⟩)] 74)
 revert fF q0 q1
 generalize((w.alloc (aU #[aH aF 6,aH aF M,aI S] 55)).alloc (aU #[aK (aE ⟨p.mb,0,aC⟩),aK (aE ⟨p.rb,0,aC⟩)] 74)).drew=w1;intro fF q0 q1;have h1:=h.below fF;obtain⟨⟨Va,Vn,wM,hap⟩,hTB,hlen⟩:=h1.pr p oM;refine(Va.GX S).mono ?_;rintro r w3 ⟨rfl,eW⟩;obtain⟨vA0,vS0,vR0,bs,hR,_⟩:=Vn.below eW;refine⟨_,_,rfl,aZ ((eW.block _ (cC q1)).trans q1) rfl,aZ ((eW.block _ (cC q0)).trans q0) rfl,?_⟩;have hr:=OG w3 p.rb vA0 vS0 vR0 bs p.m S.data.toList hR wM;rw[show(⟨S.data.toList.toArray⟩:ByteArray)=S by rw[Array.toArray_toList]] at hr;refine hr.mono ?_;rintro r w4 ⟨rfl,rM⟩;have hb:bA w.heap.size w w4:=fF.trans ((eW.trans (rM.mono eW.size)).mono fF.size);exact⟨rfl,⟨_,_,_,_,_,_,_,(h.below hb).later (Nat.le_succ t),hn⟩,hb.mono h.hB⟩
theorem jG.others (h:jG B w yb t ps vP vA vB la lb K)(hn:0<ps.length)(ht:t<=2000000)(kd:Int)(Ha:(kd==1)=aV/\(kd==2)=aV/\(kd==3)=aV/\(kd==4)=aV/\(kd==5)=aV/\(kd==6)=aV)(M:Int)(hM:dQ M)(S:ByteArray):
 bH aQ 22 #[aK (aE ⟨yb,0,aC⟩),bM #[aH aF kd,aH aF M,aI S]] w λe w' =>e=aM (bB aX)/\(kN B w' yb (t+1)/\bA B w w'):=by
 obtain⟨i,p,g,cap,hi,hp,p0,p1,c0⟩:=h.Lb hn M;have oM:=cG hp;refine BL w yb g ps.length cap i p.mb p.rb kd M Ha S hM hn (by have:=h.vI;omega) hi c0 p0 p1 _ ?_;obtain⟨fF,q0,q1⟩:=tK w (aU #[aH aF kd,aH aF M,aI S] 55) (aU #[aK (aE ⟨p.mb,0,aC⟩),aK (aE ⟨p.rb,0,aC⟩)] 74)
 revert fF q0 q1
 generalize((w.alloc (aU #[aH aF kd,aH aF M,aI S] 55)).alloc (aU #[aK (aE ⟨p.mb,0,aC⟩),aK (aE ⟨p.rb,0,aC⟩)] 74)).drew=w1;intro fF _ _;have h1:=h.below fF;exact⟨⟨_,_,_,_,_,_,_,h1.later (Nat.le_succ t),hn⟩,fF.mono h.hB⟩
theorem jG.news (h:jG B w yb t ps vP vA vB la lb K)(htab:lW w)(ht:t<=2000000)(M:Int)(S:ByteArray):
 bH aQ 22 #[aK (aE ⟨yb,0,aC⟩),bM #[aH aF 1,aH aF M,aI S]] w λe w' =>e=aM (bB aX)/\(kN B w' yb (t+1)/\bA B w w'):=by
 have hf:=h.vI;obtain⟨aP,cP,hv⟩:∃aP cP,vP=aJ aP ps.length cP:=by
  rcases h.Ex.2 with ⟨e,h0⟩|⟨g,cap,cur,e,_⟩
  ·exact⟨aC,0,by rw[e,h0]⟩
  ·exact⟨_,_,e⟩
 subst hv;refine OD w yb ps.length cP B aP M S (lX ps) (by omega) _ ?_;have fF:bA w.heap.size w (w.alloc (aU #[aH aF 1,aH aF M,aI S] 55)):=(bF _ _).alloc (bD _) _
 revert fF
 generalize w.alloc (aU #[aH aF 1,aH aF M,aI S] 55)=w1;intro fF;have h1:=h.below fF;have NP:=fF.size;refine(f7 w1 (eU htab (fF.block _ (lD htab)))).mono ?_;rintro e w2 ⟨rfl,eD,hH⟩;have h2:=h1.below eD;have lT:=hH.lt _ rfl;refine⟨_,rfl,aZ h2.y rfl,?_⟩;refine(RF w2.drew).mono ?_;rintro e w3 ⟨rfl,hR,eW⟩
 replace eW:bA w2.heap.size w2 w3:=((bF _ _).drew).trans eW
 replace hR:cH w3 w2.heap.size (aJ aC 0 0) (aJ aC 0 0) (aJ aC 0 0) [] N.new:=hR
 have h3:=h2.below eW;have hH3:=hH.below eW;have hbw3:bA w.heap.size w w3:=fF.trans ((eD.trans (eW.mono eD.size)).mono fF.size);have nY:aE yb≠(aJ aP ps.length cP).ownBlock:=λe=>by
  obtain⟨_,hc⟩:=cJ h3.Ex e.symm;exact absurd (cM h3.y hc) (by decide)
 refine⟨w2.heap.size,rfl,aZ h3.y rfl,bG 0 h3.y,h3.Ex,nY,h3.hB,λg3 iG w5 hg fL=>?_⟩;have DG:Mv (λk=>k=yb\/(aJ aP ps.length cP).ownBlock=aE k) w3 (w5.setCell ⟨yb,0,aC⟩ (aJ (aE ⟨g3,0,aC⟩) (ps.length+1) iG)):=(Mv.grown (T:=λk=>k=yb\/(aJ aP ps.length cP).ownBlock=aE k) ((Mv.refl _ _).alloc _) hg λk e=>.inl (.inr e)).setCell (p:=⟨yb,0,aC⟩) (.inl (.inl rfl)) _;have CW:Mv (Xp yb (aJ aP ps.length cP) vA vB) w3 (w5.setCell ⟨yb,0,aC⟩ (aJ (aE ⟨g3,0,aC⟩) (ps.length+1) iG)):=DG.weaken λk hk=>by
  rcases hk with x|x
  ·exact .inl x
  ·exact .inr (.inl x)
 have hy5:w5.heap[yb]?=aE (aU #[aJ aP ps.length cP,vA,vB] 52):=by
  have hy3:=h3.y;rw[hg.block yb (by have:=cC hy3;have hz:=((bF w3.heap.size w3).alloc (bD _) (aU #[aK (aE ⟨w1.heap.size,0,aC⟩),aK (aE ⟨w2.heap.size,0,aC⟩)] 74)).size;omega) nY,bA.heap_alloc _ _ _ (cC hy3)];exact hy3
 have da:∀{k:Nat} {cs:Array aG} {tt:TypeId} {fr:Nat×Nat},w3.heap[k]?=aE (aU cs tt fr)->tt≠52->tt≠74->(w5.setCell ⟨yb,0,aC⟩ (aJ (aE ⟨g3,0,aC⟩) (ps.length+1) iG)).heap[k]?=w3.heap[k]?:=λhc t1 t2=>DG.block _ (cC hc) λhx=>by
  rcases hx with hx|e
  ·rw[hx] at hc;exact t1 (cM hc h3.y)
  ·obtain⟨_,h'⟩:=cJ h3.Ex e;exact t2 (cM hc h')
 have hG:∀k,dV w2.heap.size (aJ aC 0 0) (aJ aC 0 0) (aJ aC 0 0) k->k=w2.heap.size:=λk hk=>by
  rcases hk with x|x|x|x
  ·exact x
  all_goals simp[aG.ownBlock] at x
 have UF:rA w3 ⟨w1.heap.size,w2.heap.size,λk=>k=w1.heap.size,dV w2.heap.size (aJ aC 0 0) (aJ aC 0 0) (aJ aC 0 0),N.new⟩:=⟨hH3,⟨_,_,_,_,hR,rfl⟩,VV,λk hk hg=>by
  have:=hG k hg;have:k=w1.heap.size:=hk;omega⟩
 have SK:=UF.GG (wZ h3.tb λk hk=>by
  obtain⟨z1,cs,tt,fr,hc,hT⟩:=h3.Wu hk;exact⟨z1,cs,tt,fr,hc,(wS hT).2.2⟩) (λk hk hx=>by
  obtain⟨_,_,_,hc,hM⟩:=UF.typed hk;obtain⟨_,_,_,_,P0,hT⟩:=h3.Wu hx;rw[cM hc P0] at hM;exact(wS hT).1 hM) CW
 refine⟨⟨_,_,_,_,_,_,_,h.redo (qs:=[⟨w1.heap.size,w2.heap.size,λk=>k=w1.heap.size,dV w2.heap.size (aJ aC 0 0) (aJ aC 0 0) (aJ aC 0 0),N.new⟩]) (xa:=[]) (xb:=[]) (Kn:=λ_=>False) ((Mv.dS hbw3 _).trans (dG.refl _ _) CW) (Nat.le_succ t) (bV hy5 0 _) ?_ ?_ ?_ (λi v hv=>by simp at hv) (λi v hv=>by simp at hv) (by simp) (λq hq=>?_) (λk hk=>hk.elim) (by simp only[bN,cX,List.length_nil];omega),by simp⟩,?_⟩
 ·rw[Ou,bN];refine cV fL λk e=>bA.heap_setCell _ _ _ _ λx=>?_
  obtain⟨_,h'⟩:=cJ fL e;rw[x] at h';exact absurd (cM hy5 h') (by decide)
 ·rw[List.append_nil];exact cV h3.Dw λk e=>by obtain⟨_,hc⟩:=cJ h3.Dw e;exact da hc (by decide) (by decide)
 ·rw[List.append_nil];exact cV h3.Dt λk e=>by obtain⟨_,hc⟩:=cJ h3.Dt e;exact da hc (by decide) (by decide)
 ·have hq:=dE.1 hq;subst hq;refine⟨SK,λk hk=>⟨?_,λx=>x⟩,by simp[N.new]⟩;rcases hk with x|x
  ·have:k=w1.heap.size:=x;omega
  ·have:=hG k x;omega
 ·exact(hbw3.mono h.hB).trans (CW.below (λk hk=>(h3.Wu hk).1) h3.hB)
end
theorem A8 {t:Nat}(h:kN B w yb t)(ht:t<=2000000)(kd M:Int)(hM:dQ M)(S:ByteArray):
 bH aQ 22 #[aK (aE ⟨yb,0,aC⟩),bM #[aH aF kd,aH aF M,aI S]] w λe w' =>e=aM (bB aX)/\(kN B w' yb (t+1)/\bA B w w'):=by
 obtain⟨ps,vP,vA,vB,la,lb,K,h,hn⟩:=h;by_cases h1:kd=1
 ·subst h1;obtain⟨p,hp⟩:∃p,ps[0]?=aE p:=⟨_,bL hn⟩
  exact h.news (h.pr p (cG hp)).1.has.Ca.1 ht M S
 by_cases h2:kd=2
 ·subst h2;exact h.kR hn ht M hM S
 by_cases h3:kd=3
 ·subst h3;exact h.stacks hn ht M hM S
 by_cases h4:kd=4
 ·subst h4;exact h.asides hn ht M hM S
 by_cases h5:kd=5
 ·subst h5;exact h.words hn ht M hM S
 by_cases h6:kd=6
 ·subst h6;exact h.sees hn ht M hM S
 exact h.others hn ht kd ⟨beq_eq_false_iff_ne.2 h1,beq_eq_false_iff_ne.2 h2,beq_eq_false_iff_ne.2 h3,beq_eq_false_iff_ne.2 h4,beq_eq_false_iff_ne.2 h5,beq_eq_false_iff_ne.2 h6⟩ M hM S
section
attribute [local go_sem ↓] Go.wp_at_zero Go.wp_at_succ
def QM (P:aY->Prop) (yb:Nat) (kd M:Int) (S:ByteArray) (W:aY):Prop:=
 bH aQ 22 #[aK (aE ⟨yb,0,aC⟩),bM #[aH aF kd,aH aF M,aI S]] W λe w3=>e=aM (bB aX)/\bH aQ 24 #[aK (aE ⟨yb,1,aC⟩)] w3 λe w4=>e=aM (bB aX)/\P w4
def NZ (P:aY->Prop) (yb:Nat) (wo:aG) (kd M:Int) (S:ByteArray) (wr:aY):Prop:=
 (kd=2/\bH aQ 23 #[aI S,wo] (wr.alloc (aU #[aH aF kd,aH aF M,aI S] 55)) λe w2=>(e=aM (bB aX)/\P w2)\/(e=aM (bB aV)/\w2.cell? ⟨wr.heap.size,0,aC⟩=aE (aH aF kd)/\w2.cell? ⟨wr.heap.size,1,aC⟩=aE (aH aF M)/\w2.cell? ⟨wr.heap.size,2,aC⟩=aE (aI S)/\QM P yb kd M S w2))\/
 ((kd==2)=aV/\QM P yb kd M S (wr.alloc (aU #[aH aF kd,aH aF M,aI S] 55)))
theorem Y5 (w:aY)(n c:Nat)(a:Option Addr)(wo:aG)(hn:n<=1048576)(P:Nat->aY->Prop)(eY:bH aQ 22 #[aK (aE ⟨w.heap.size,0,aC⟩),bM #[aH aF 1,aH aF 0,aI ⟨#[]⟩]] (w.alloc (aU #[aJ aC 0 0,aJ aC 0 0,aJ aC 0 0] 52)) λe w1=>e=aM (bB aX)/\bH aQ 22 #[aK (aE ⟨w.heap.size,0,aC⟩),bM #[aH aF 2,aH aF 0,aI ⟨#[50,32,51,32,43,32,46,32,55]⟩]] w1 λe w2=>e=aM (bB aX)/\P 0 w2)(H:Hid (∀k wr,k<n->P k wr->∃(b o:Nat) (kd M:Int) (S:ByteArray),a=aE ⟨b,o,aC⟩/\wr.cell? ⟨b,o+k*3,aC⟩=aE (aH aF kd)/\wr.cell? ⟨b,o+k*3+1,aC⟩=aE (aH aF M)/\wr.cell? ⟨b,o+k*3+2,aC⟩=aE (aI S)/\NZ (P (k+1)) w.heap.size wo kd M S wr)):
 bH aQ 9 #[aJ a n c,wo] w λe w' =>e=aM (bB aX)/\P n w' :=by
 have HN:=bE eY;clear eY;go_enter func9,ntmps9;go_wp2_with fail
 refine(aN HN).mono ?_;rintro e w1 ⟨rfl,h2⟩;have H2:=bE h2;clear h2 HN;go_wp2_with fail
 refine(aN H2).mono ?_;rintro e w2 ⟨rfl,h3⟩;have H3:=bE h3;clear h3 H2;go_wp2
 go_loopw [6,7] (λokv iv wr=>∃k:Nat,k<=n/\okv=bB aX/\iv=aH aF k/\P k wr) (λ_ i _=>match i with|aH _ k=>n-k.toNat|_=>0)
 case atStart=>exact⟨0,bZ _,rfl,rfl,aN H3⟩
 case round=>
  obtain⟨k,hk,rfl,rfl,hP⟩:=hrel;by_cases eQ:k<n
  ·obtain⟨b,o,kd,M,S,rfl,c0,c1,c2,hr⟩:=aN H k wr eQ hP;have k1:(k:Int)<(n:Int):=by omega
   have k0:(0:Int)<=(k:Int):=by omega
   have k2:=wi ((k:Int)+1);have dk:n-((k:Int)+1).toNat<n-(k:Int).toNat:=by omega
   have Dk:=bE (bK dk eQ);clear dk hP eQ hk;have z0:(wr.alloc (aU #[aH aF kd,aH aF M,aI S] 55)).cell? ⟨wr.heap.size,0,aC⟩=aE (aH aF kd):=aZ (heap_alloc_new wr _) rfl;have z1:(wr.alloc (aU #[aH aF kd,aH aF M,aI S] 55)).cell? ⟨wr.heap.size,1,aC⟩=aE (aH aF M):=aZ (heap_alloc_new wr _) rfl;have z2:(wr.alloc (aU #[aH aF kd,aH aF M,aI S] 55)).cell? ⟨wr.heap.size,2,aC⟩=aE (aI S):=aZ (heap_alloc_new wr _) rfl;rcases hr with ⟨rfl,hh⟩|⟨Ha,hs⟩
   ·have HH:=bE hh;clear hh;go_wp2_with fail
    refine(aN HH).mono ?_;rintro e w3 (⟨rfl,hp⟩|⟨rfl,y0,y1,y2,hs⟩)
    ·have HP:=bE hp;clear hp HH z0 z1 z2 c0 c1 c2;go_wp2;exact⟨⟨k+1,by have:=(aN Dk).2;omega,rfl,by simp,aN HP⟩,(aN Dk).1⟩
    ·have HS:=bE hs;clear hs HH z0 z1 z2 c0 c1 c2;go_wp2_with fail
     refine(aN HS).mono ?_;rintro e w4 ⟨rfl,hw⟩;have HW:=bE hw;clear hw HS y0 y1 y2;go_wp2_with fail
     refine(aN HW).mono ?_;rintro e w5 ⟨rfl,hp⟩;have HP:=bE hp;clear hp HW;go_wp2;exact⟨⟨k+1,by have:=(aN Dk).2;omega,rfl,by simp,aN HP⟩,(aN Dk).1⟩
   ·have HS:=bE hs;clear hs;go_wp2_with fail
    refine(aN HS).mono ?_;rintro e w4 ⟨rfl,hw⟩;have HW:=bE hw;clear hw HS z0 z1 z2 c0 c1 c2;go_wp2_with fail
    refine(aN HW).mono ?_;rintro e w5 ⟨rfl,hp⟩;have HP:=bE hp;clear hp HW;go_wp2;exact⟨⟨k+1,by have:=(aN Dk).2;omega,rfl,by simp,aN HP⟩,(aN Dk).1⟩
  ·have Mp:k=n:=by omega
   subst Mp;have HP:=bE hP;clear hP;go_wp2;go_ret;exact⟨rfl,aN HP⟩
end
theorem Qy {ls:List (List UInt8)}{p:List UInt8->Bool}(hk:k<ls.length)(h:(ls.take k).any p=aV)(hp:p ls[k]=aV):(ls.take (k+1)).any p=aV:=by
 rw[dF hk,List.any_append,h];simp[hp]
theorem WB (text:ByteArray)(vl:aG)(p:List UInt8->Bool)(w:aY)(hs:text.size<=4294967296)(H:Hid (∀W,bA w.heap.size w W->∀l:List UInt8,bH aQ 41 #[aI ⟨l.toArray⟩,vl] W λe w' =>e=aM (bB (p l))/\w' =W)):
 bH aQ 23 #[aI text,vl] w λe w' =>e=aM (bB ((L.split text.data.toList).any p))/\bA w.heap.size w w' :=by
 go_enter func23,ntmps23;go_wp2_with fail
 refine(Vw text _ hs).mono ?_;rintro e w1 ⟨v,rfl,fK,_,hb⟩;have HB:=bE hb;clear hb;generalize DX:L.split text.data.toList=ls at*;have Hls:=bE DX;clear DX;obtain⟨a,cap,hv,_,ha⟩:=cU fK;have hlen:(ls.length:Int)<=9223372036854775807:=by
  rcases fK.2 with ⟨_,h⟩|⟨_,_,_,_,_,_,h1,h2,_⟩
  ·omega
  ·unfold maxLen at h2;omega
 have gK:∀k (hk:k<ls.length),∃g,a=aE ⟨g,0,aC⟩/\w1.cell? ⟨g,k,aC⟩=aE (aI ⟨ls[k].toArray⟩):=λk hk=>by
  rcases fK.2 with ⟨_,h⟩|⟨g,mT,cur,h1,h2⟩
  ·omega
  ·subst h1;injection hv with h3;refine⟨g,h3.symm,?_⟩;have:=fK.cells (g:=g) rfl k (aI ⟨ls[k].toArray⟩) (by rw[cI,bL hk];rfl);rwa[fE,dC] at this
 subst hv;have HC:=bE gK;clear gK fK ha;go_wp2
 go_loop [6] (λi=>∃k:Nat,k<=ls.length/\i=aH aF k/\(ls.take k).any p=aV) (λi=>ls.length-(intOf i).toNat)
 case atStart=>exact⟨0,bZ _,rfl,rfl⟩
 case round=>
  obtain⟨k,hk,rfl,mO⟩:=hrel;have SU:=bE mO;clear mO;by_cases eQ:k<ls.length
  ·obtain⟨g,rfl,hc⟩:=aN HC k eQ;go_wp2_with fail
   refine(aN H _ (aN HB) ls[k]).mono ?_;rintro e w2 ⟨rfl,rfl⟩;cases hp:p ls[k] with
   |true=>
    have Hp:=bE hp;clear hp;go_wp2;go_ret;refine⟨mD ?_,aN HB⟩
    symm
    rw[aN Hls,List.any_eq_true];exact⟨ls[k],List.getElem_mem eQ,aN Hp⟩
   |false=>
    have Hp:=bE hp;clear hp;go_wp2;exact⟨⟨k+1,by omega,by go_num,Qy eQ (aN SU) (aN Hp)⟩,by simp[intOf];omega⟩
  ·go_wp2;go_ret;refine⟨mD ?_,aN HB⟩;have:=aN SU;rw[eB (by omega)] at this;rw[aN Hls];exact this.symm
def gq (W:aY) (a:Option Addr) (k:Nat) (z:Int×Int×ByteArray):Prop:=dQ z.2.1/\z.2.2.size<=4294967296/\∃b o,a=aE ⟨b,o,aC⟩/\b<W.heap.size/\W.cell? ⟨b,o+k*3,aC⟩=aE (aH aF z.1)/\W.cell? ⟨b,o+k*3+1,aC⟩=aE (aH aF z.2.1)/\W.cell? ⟨b,o+k*3+2,aC⟩=aE (aI z.2.2)
def FM (W:aY) (a:Option Addr) (n:Nat) (zs:List (Int×Int×ByteArray)):Prop:=
 zs.length=n/\∀(k:Nat) (z:Int×Int×ByteArray),zs[k]?=aE z->gq W a k z
theorem kN.below {t:Nat}(h:kN B w yb t)(hb:bA w.heap.size w w'):kN B w' yb t:=by
 obtain⟨ps,vP,vA,vB,la,lb,K,h,hn⟩:=h;exact⟨ps,vP,vA,vB,la,lb,K,h.below hb,hn⟩
theorem kN.later {t:Nat}(h:kN B w yb t):kN B w yb (t+1):=by
 obtain⟨ps,vP,vA,vB,la,lb,K,h,hn⟩:=h;exact⟨ps,vP,vA,vB,la,lb,K,h.later (Nat.le_succ t),hn⟩
theorem kN.hB {t:Nat}(h:kN B w yb t):B<=w.heap.size:=by
 obtain⟨ps,vP,vA,vB,la,lb,K,h,hn⟩:=h;exact h.hB
theorem kN.whole {t:Nat}(h:kN B w yb t)(ht:t<=10000000):bH aQ 24 #[aK (aE ⟨yb,1,aC⟩)] w λe w' =>e=aM (bB aX)/\w' =w:=by
 obtain⟨ps,vP,vA,vB,la,lb,K,h,hn⟩:=h;have hf:=h.vI;obtain⟨aA,cA,hA,_⟩:=cU h.Dw;obtain⟨aB,cB,hB,_⟩:=cU h.Dt;subst hA hB;exact CM w yb la.length cA lb.length cB aA aB (by omega) (by omega) (aZ h.y rfl) (aZ h.y rfl) (bE (qZ.reads (z:=λi=>aH aF (-7070-(i:Int))) h.Dw h.al)) (bE (qZ.reads (z:=λi=>aI ⟨(Ck i).toArray⟩) h.Dt h.bl))
theorem LO (w:aY)(htab:lW w)(a:Option Addr)(n c:Nat)(zs:List (Int×Int×ByteArray))(P4:FM w a n zs)(hn:n<=1048576)(wo:aG)(p:List UInt8->Bool)(nM:∀W,bA w.heap.size w W->∀l:List UInt8,bH aQ 41 #[aI ⟨l.toArray⟩,wo] W λe w' =>e=aM (bB (p l))/\w' =W):
 bH aQ 9 #[aJ a n c,wo] w λe w' =>e=aM (bB aX)/\bA w.heap.size w w' :=by
 refine(Y5 w n c a wo hn (λk wr=>kN w.heap.size wr w.heap.size (k+2)/\bA w.heap.size w wr) ?_ (bE λk wr hk ⟨hP,hb⟩=>?_)).mono λe w' ⟨he,h⟩=>⟨he,h.2⟩
 ·have fF:bA w.heap.size w (w.alloc (aU #[aJ aC 0 0,aJ aC 0 0,aJ aC 0 0] 52)):=(bF _ _).alloc (bD _) _;have h0:jG w.heap.size (w.alloc (aU #[aJ aC 0 0,aJ aC 0 0,aJ aC 0 0] 52)) w.heap.size 0 [] (aJ aC 0 0) (aJ aC 0 0) (aJ aC 0 0) [] [] (λ_=>False):=
   ⟨heap_alloc_new w _,bD _,⟨rfl,.inl ⟨rfl,rfl⟩⟩,⟨rfl,.inl ⟨rfl,rfl⟩⟩,⟨rfl,.inl ⟨rfl,rfl⟩⟩,λi v hv=>by simp at hv,λi v hv=>by simp at hv,λq hq=>by simp at hq,λi j q r hi=>by simp at hi,λq hq=>by simp at hq,λk hk=>hk.elim,⟨bD _,bD _,bD _⟩,lD htab,fF.size⟩
  refine(h0.news (eU htab (fF.block _ (lD htab))) (by omega) 0 ⟨#[]⟩).mono ?_;rintro e w1 ⟨rfl,hp1,eD⟩;refine⟨rfl,(A8 hp1 (by omega) 2 0 (by unfold dQ;omega) _).mono ?_⟩;rintro e w2 ⟨rfl,hp2,eW⟩;exact⟨rfl,hp2,fF.trans (eD.trans eW)⟩
 ·obtain⟨hl,hz⟩:=P4;obtain⟨z,hzk⟩:∃z,zs[k]?=aE z:=⟨_,bL (by omega)⟩
  obtain⟨hM,hS,b,o,ha,hblt,c0,c1,c2⟩:=hz k z hzk;refine⟨b,o,z.1,z.2.1,z.2.2,ha,(hb.cell hblt).trans c0,(hb.cell hblt).trans c1,(hb.cell hblt).trans c2,?_⟩;have Lz:bA wr.heap.size wr (wr.alloc (aU #[aH aF z.1,aH aF z.2.1,aI z.2.2] 55)):=(bF _ _).alloc (bD _) _;have Mn:=heap_alloc_new wr (aU #[aH aF z.1,aH aF z.2.1,aI z.2.2] 55);have lC:∀W,kN w.heap.size W w.heap.size (k+2)->bA w.heap.size w W->QM (λwr=>kN w.heap.size wr w.heap.size (k+1+2)/\bA w.heap.size w wr) w.heap.size z.1 z.2.1 z.2.2 W:=λW hW tB=>by
   refine(A8 hW (by omega) z.1 z.2.1 hM z.2.2).mono ?_;rintro e w3 ⟨rfl,hp3,eW⟩;refine⟨rfl,(hp3.whole (by omega)).mono ?_⟩;rintro e w4 ⟨rfl,hw⟩;subst hw;exact⟨rfl,by rw[show k+1+2=k+2+1 by omega];exact hp3,tB.trans eW⟩
  revert Lz Mn
  unfold NZ;generalize wr.alloc (aU #[aH aF z.1,aH aF z.2.1,aI z.2.2] 55)=w1;intro Lz Mn;have MV:bA w.heap.size w w1:=hb.trans (Lz.mono hP.hB);by_cases tC:z.1=2
  ·left
   refine⟨tC,(WB z.2.2 wo p w1 hS (bE λW tB l=>nM W (MV.trans (tB.mono (cF hP.hB Lz.size))) l)).mono ?_⟩;rintro e w2 ⟨rfl,eD⟩;have MH:bA w.heap.size w w2:=MV.trans (eD.mono (cF hP.hB Lz.size));have hP2:=(hP.below Lz).below eD;cases(L.split z.2.2.data.toList).any p
   ·have hc:=(eD.block _ (cC Mn)).trans Mn;exact .inr ⟨rfl,aZ hc rfl,aZ hc rfl,aZ hc rfl,lC w2 hP2 MH⟩
   ·exact .inl ⟨rfl,by rw[show k+1+2=k+2+1 by omega];exact hP2.later,MH⟩
  ·exact .inr ⟨beq_eq_false_iff_ne.2 tC,lC w1 (hP.below Lz) MV⟩
section
open Go.RowKit Go.ChangeShapes Go.WideShapes
def VU (W:aY) (a:Option Addr) (len:Nat) (zs:List Int):Prop:=
 zs.length=len/\(len:Int)<=9223372036854775807/\(∀i,i<len->∃b,a=aE b/\b.block<W.heap.size/\W.cell? (b.add i)=aE (aH aF (zs.getD i 0)))/\∀z∈zs,dQ z
theorem F2:aQ.cellsOf 3=1:=by kernel_rfl
theorem ZS {a:Int}(h:(Lit.int aF a).wf=aX):dQ a:=by
 simp only[Lit.wf,IntKind.min,IntKind.max,IntKind.signed,IntKind.bits,Bool.and_eq_true,decide_eq_true_eq,if_true] at h;unfold dQ;omega
variable {H:Type}{W:aY}{base cap:Nat}
theorem io {enc:TypeId×aG->H}{sp:Nat->Bool}{held:Bool}{a:Option Addr}{len:Nat}{d:DataW H}{ps:List MemPlace}(h:DataW.Trod enc aQ W base sp held 26 (aJ a len cap) d ps):∃zs,VU W a len zs:=by
 obtain⟨fuel,hf⟩:=h;rcases open_ints underlying26 underlying3 F2 hf with ⟨Q6,hx⟩|⟨b,len',mT,zs,Q6,_,hl,hm,hz,hx,gK,YG⟩
 ·simp[aG.cells] at Q6;obtain⟨rfl,rfl,rfl⟩:=Q6;exact⟨[],rfl,by omega,λi hi=>by omega,λz hz=>by simp at hz⟩
 ·simp[aG.cells] at Q6;obtain⟨rfl,rfl,rfl⟩:=Q6;unfold maxLen at hm;have hzl:len<=zs.length:=by rw[hz];split <;> omega
  refine⟨zs.take len,by simp;omega,by omega,λi hi=>⟨b,rfl,?_,?_⟩,λz hz=>ZS (YG z (List.mem_of_mem_take hz))⟩
  ·have hc:=gK i (by omega);have:=aY.block_lt_of_cell? _ _ hc;rwa[Go.ChangeShapes.block_add] at this
  ·rw[gK i (by omega)];simp[List.getD_eq_getElem?_getD,hi]
theorem VU.below {W' :aY}{a:Option Addr}{len:Nat}{zs:List Int}(h:VU W a len zs)(hb:bA W.heap.size W W'):VU W' a len zs:=by
 refine⟨h.1,h.2.1,λi hi=>?_,h.2.2.2⟩;obtain⟨b,Ma,eQ,hc⟩:=h.2.2.1 i hi;refine⟨b,Ma,eC eQ hb.size,?_⟩;rw[hb.cell (by rw[Go.ChangeShapes.block_add];exact eQ)];exact hc
theorem QQ (d:DataW H):1<=Rows.uptoBulk d:=by
 cases d with
 |lit l=>cases l <;> simp[Rows.uptoBulk]
 |_=>simp[Rows.uptoBulk]
theorem Vu {d:DataW H}:∀{l:List (DataW H)},d∈l->Rows.uptoBulk d<=Rows.uptoBulkAll l
 |x::r,h=>by
  rw[Rows.uptoBulkAll];rcases List.mem_cons.1 h with e|e
  ·subst e;omega
  ·have:=Vu e;omega
theorem y8:∀l:List (DataW H),l.length<=Rows.uptoBulkAll l
 |[]=>bZ _
 |x::r=>by
  have h1:=QQ x;have h2:=y8 r;rw[Rows.uptoBulkAll,cX];omega
variable {v:aG}
theorem JQ {a:Addr}(h:W.cell? a=aE v):a=⟨a.block,a.off,aC⟩:=by
 obtain⟨b,o,s⟩:=a;cases s with
 |none=>rfl
 |some s=>
  exfalso;unfold aY.cell? at h
  split at h <;> simp at h
theorem FC:aQ.cellsOf 55=3:=by kernel_rfl
theorem OM:aQ.cellsOf 9=1:=by kernel_rfl
theorem D9 {p:Nat->Int×Int×ByteArray->Prop}:∀n,(∀k,k<n->∃z,p k z)->∃zs:List (Int×Int×ByteArray),zs.length=n/\∀k z,zs[k]?=aE z->p k z
 |0,_=>⟨[],rfl,λk z h=>by simp at h⟩
 |n+1,h=>by
  obtain⟨zs,hl,hz⟩:=D9 n λk hk=>h k (by omega)
  obtain⟨z,hp⟩:=h n (by omega);refine⟨zs++[z],by simp[hl],λk y hk=>?_⟩;rw[List.getElem?_append] at hk
  split at hk
  ·exact hz k y hk
  ·have eQ:k-zs.length<1:=by
    have:=(bI.1 hk).1;simpa using this
   have Mp:k=n:=by omega
   subst Mp;rw[show k-zs.length=0 by omega] at hk;have:z=y:=by simpa using hk
   subst this;exact hp
theorem ew {enc:TypeId×aG->H}{sp:Nat->Bool}{held:Bool}{a:Option Addr}{len:Nat}{d:DataW H}{ps:List MemPlace}(h:DataW.Trod enc aQ W base sp held 22 (aJ a len cap) d ps)(hd:Rows.uptoBulk d<=1048576):len<=1048576/\∃zs,FM W a len zs:=by
 obtain⟨fuel,hf⟩:=h;rcases Deep.open_slice underlying22 hf with ⟨Q6,hx⟩|⟨b,len',mT,m,n,D,Pl,Q6,hb,hl,hm,Bg,hx,hel⟩
 ·simp[aG.cells] at Q6;obtain⟨rfl,rfl,rfl⟩:=Q6;exact⟨by omega,[],rfl,λk z hk=>by simp at hk⟩
 ·simp[aG.cells] at Q6;obtain⟨rfl,rfl,rfl⟩:=Q6;have jt:=congrArg Prod.fst hx;simp only at jt;subst jt;rw[Rows.uptoBulk] at hd;have hlen:=y8 ((List.range len).map D);rw[dO,List.length_range] at hlen;have hlm:len<=m:=by rw[Bg];split <;> omega
  have hlen2:len<=1048576:=by omega
  refine⟨hlen2,D9 (p:=gq W (aE b)) len λk hk=>?_⟩;have kO:b=⟨b.block,b.off,aC⟩:=by
   obtain⟨cs,h1,_⟩:=hel 0 (by omega);rw[FC] at h1;obtain⟨_,hlc,gK⟩:=aY.cells?_some h1;have q:=gK 0 (by omega);rw[bL (by omega)] at q;exact JQ (by simpa[Addr.add] using q)
  have SB:∀i j,((⟨b.block,b.off,aC⟩:Addr).add i).add j=⟨b.block,b.off+i+j,aC⟩:=λi j=>by rw[fE,fE]
  obtain⟨cs,h1,h2⟩:=hel k (by omega);rw[FC] at h1;obtain⟨_,hlc,gK⟩:=aY.cells?_some h1;obtain⟨xs,f,_,hD,_,hxl,hfs⟩:=DataW.trod_struct underlying55 h2;have hDk:=Vu (d:=D k) (l:=(List.range len).map D) (List.mem_map.2 ⟨k,List.mem_range.2 hk,rfl⟩)
  match xs,hxl,cs,hlc with
  |[y0,y1,y2],_,[v0,v1,v2],_=>
   have g0:=hfs 0 _ rfl;have g1:=hfs 1 _ rfl;have g2:=hfs 2 _ rfl;simp[F2,OM] at g0 g1 g2;obtain⟨z0,e0,_,_⟩:=DataW.trod_int underlying3 g0;obtain⟨z1,e1,_,w1⟩:=DataW.trod_int underlying3 g1;obtain⟨s,e2,ey,_⟩:=DataW.trod_string underlying9 g2;obtain⟨rfl⟩:=List.cons.inj e0 |>.1
   obtain⟨rfl⟩:=List.cons.inj e1 |>.1
   obtain⟨rfl⟩:=List.cons.inj e2 |>.1
   have q0:=gK 0 (by omega);have q1:=gK 1 (by omega);have q2:=gK 2 (by omega);simp only[Prod.mk.injEq] at hD;rw[hD.1] at hDk;have NR:y2.1=DataW.lit (Lit.string s.data.toList):=by rw[ey]
   simp only[List.map,NR,Rows.uptoBulk,Rows.uptoBulkAll] at hDk;rw[kO,SB (k*3) 0] at q0;rw[kO,SB (k*3) 1] at q1;rw[kO,SB (k*3) 2] at q2;refine⟨(z0,z1,s),ZS w1,?_,b.block,b.off,by rw[<-kO],eG q0,q0,q1,q2⟩;have:s.data.toList.length=s.size:=by rw[Array.length_toList];rfl
   show s.size<=_;omega
end
end Go.Proofs.YtgnlokmeohffaaaGreatDoor
