/- Parts of the proof: see the last text. -/
import Derived.Test.YtgnlokmeohffaaaGreatDoorG3
namespace Go.Proofs.YtgnlokmeohffaaaGreatDoor
set_option maxRecDepth 100000
set_option maxHeartbeats 8000000
open Option renaming none → aC, some → aE
open Go renaming IntKind.i64 → aF, Value → aG, Value.int → aH, Value.string → aI, Value.slice → aJ, Value.pointer → aK, Ending.returned → aM, Obj.cells → aU, World → aY, Value.tuple → bC, Value.bool → bB, Calls → bH, Value.agg → bM, World.grownBy_alloc → bU
open Go.Proofs.Tryz renaming prog → aQ
open Bool renaming false → aV, true → aX
open Go.RowKit renaming Below → bA, Below.refl → bF
open Nat renaming le_refl → bD, zero_le → bZ, le_trans → cF, zero_add → dC
open List renaming getElem?_eq_some_iff → bI, getElem?_eq_getElem → bL, length_append → bN, getElem?_append_right → bP, mem_of_getElem? → cG, getElem?_map → cI, length_cons → cX, mem_singleton → dE, take_succ_eq_append_getElem → dF, length_map → dO, not_mem_nil → dR, take_of_length_le → eB
open And renaming intro → bK
open Tryz
open Go.RowKit
section
attribute [local go_sem ↓] Go.wp_at_zero Go.wp_at_succ
theorem gu (w:aY)(rb:Nat)(vA vS vR:aG)(bs:List aG)(m:N.cE)(depth:Int)(s:ByteArray)(u a:Nat)(T:List UInt8)(rest:List Int)(x:Int)(h:cH w rb vA vS vR bs m)(hS:m.S=rest++[x])(hu:u<=3)(ha:a<=1)(ho:rest.length+u<=16)(Tl:m.R.length+a<=16)(hT:m.out.length+T.length<=300)(ht:bH aQ 78 #[aI s] w λe w' =>e=aM (bC #[aH aF 1,aH aF 0,aH aF u,aH aF a])/\w' =w)(hw:∀W gl cap,cH W rb vA vS vR bs m->(∀j v,([x]:List Int)[j]?=aE v->W.cell? ⟨gl,j,aC⟩=aE (aH aF v))->bH aQ 79 #[aK (aE ⟨rb,0,aC⟩),aI s,(aJ (aE ⟨gl,0,aC⟩) 1 cap)] W λe w' =>e=aM (aH aF 0)/\w' =W)(sG:∀W,bH aQ 80 #[aI s,aH aF x] W λe w' =>e=aM (aI ⟨T.toArray⟩)/\bA W.heap.size W w')(hs:(s=⟨#[64]⟩/\u=1/\a=0))(j:Nat)(E:N.iM)(hj:m.all[j]?=aE E)(j7:x=1000+(j:Int)):
 bH aQ 61 #[aK (aE ⟨rb,0,aC⟩),aI s,aH aF depth] w λe w' =>e=aM (aH aF 0)/\dP rb vA vS vR bs (N.kR {m with out:=m.out++T} s.data.toList [x] rest) w w' :=by
 obtain⟨iI,hi,hz,pW,jP⟩:=jJ;obtain⟨aS,cS,rfl,lU,qJ⟩:=cU h.st;obtain⟨aR,cR,rfl,Ti,mH⟩:=cU h.rt;obtain⟨g,cap,vJ,Tf,zX⟩:=h.st.form (by rw[hS];simp);have Nt:=eM vJ;subst Nt;clear vJ cap qJ mH Tf zX;have c1:=cq 1 h.mc rfl;have c2:=cq 2 h.mc rfl;have xJ:=h.sl;have xH:=h.rl;have hlen:m.S.length=rest.length+1:=by rw[hS];simp
 have src:lN w (aJ (if cS=rest.length then(aE ⟨g,0,aC⟩:Option Addr) else aE ⟨g,rest.length,aC⟩) (m.S.length-rest.length) (cS-rest.length)) (([x]:List Int).map (aH aF)):=by
  have:=kL (k:=rest.length) h.st lU (by omega);have e1:(m.S.map (aH aF)).drop rest.length=([x]:List Int).map (aH aF):=by rw[hS,<-List.map_drop,List.drop_left]
  rwa[e1] at this
 have HR:=bE h;have zV:=bE hw;have xC:=bE sG;have HT:=bE ht;have HS:=bE hs;have HJ0:=bE (bK hj j7);clear hj j7;have So:=bE hT;have mU:(⟨m.out.toArray⟩:ByteArray).size+(⟨T.toArray⟩:ByteArray).size<=300:=by simpa[ByteArray.size] using hT
 generalize hO:(⟨m.out.toArray⟩:ByteArray)=O at mU;generalize zT:(⟨T.toArray⟩:ByteArray)=TT at mU xC;have HO:=bE (bK hO zT);clear h hO zT hw sG ht hs hT;generalize hn:m.S.length=n at*;generalize hk:rest.length=k at*;generalize hr:m.R.length=q at*;generalize hx:(if cS=k then(aE ⟨g,0,aC⟩:Option Addr) else aE ⟨g,k,aC⟩)=xS at*;have HN:=bE (bK hn (bK hk (bK hS (bK hlen hr))));have i0:aF.wrap ((n:Int)-1)=(k:Int):=wj;have i1:(0:Int)<=(k:Int):=by omega
 have i2:(k:Int)<=(n:Int):=by omega
 have i3:(n:Int)<=(cS:Int):=by omega
 have Tm :(k:Int)<=(cS:Int):=by omega
 have i4:¬(n:Int)<1:=by omega
 have i5:¬(q:Int)<0:=by omega
 have i6:=wi ((k:Int)+(u:Int));have i7:¬(k:Int)+(u:Int)>16:=by omega
 have i8:=wi (q:Int);have i9:=wi ((q:Int)+(a:Int));have i10:¬(q:Int)+(a:Int)>16:=by omega
 have wL:0+(([x]:List Int).map (aH aF)).length<=maxLen:=by unfold maxLen;simp
 have wN:(0+(([x]:List Int).map (aH aF)).length)*8<=140737488355328:=by simp
 clear hn hk hS hlen hr;go_enter func61,ntmps61;go_wp2_with (
  go_at_call 78
  refine(aN HT).mono ?_;rintro e iF ⟨rfl,mG⟩;subst iF)
 go_region_held3 (λw' =>w'.cell? ⟨rb,1,aC⟩=aE (aJ (aE ⟨g,0,aC⟩) n cS)) (first|exact c1|go_keep)
  (first
    |(refine dW _ (by rfl) _ _ _ (by rfl) 3 iI (aH aF 0) 8 underlying26 hi hz pW jP rfl (aJ aC 0 0) 0 [] (by rfl) (aY.ownsRow_nil _ _ _ _) (aJ xS (n-k) (cS-k)) (([x]:List Int).map (aH aF)) (by rfl) (by exact src) (gX _) wL wN ?_
      intro a1 pV w2 o1 g1 t1;have g1:w.grownBy w2 aC:=⟨g1.os,g1.tape,g1.output,g1.size,g1.block⟩
      have c1:=g1.cell c1 (by simp)))
 simp only[List.map_cons,List.map_nil,cX,List.length_nil,dC,List.nil_append] at o1 t1;have eD:bA w.heap.size w w2:=⟨g1.os,g1.tape,g1.output,g1.size,λk hk=>g1.block k hk (by simp)⟩
 obtain⟨gl,cl,Jd,Bj,tW⟩:=o1.form (by simp);have Jv:=eM Jd;subst Jv;have zW:w.heap.size<=gl:=by
  rcases t1 with t1|t1
  ·cases t1
  ·injection t1 with t1;exact Nat.le_of_eq t1.symm
 have ls:∀j v,([x]:List Int)[j]?=aE v->w2.cell? ⟨gl,j,aC⟩=aE (aH aF v):=λj v hv=>by
  have:=o1.cells (g:=gl) rfl j (aH aF v) (by
   have h1:(([x]:List Int).map (aH aF))[j]?=aE (aH aF v):=by rw[cI,hv];rfl
   exact h1)
  rwa[fE,dC] at this
 have qT:=(aN HR).below eD;have c2:=cq 2 qT.mc rfl;have HW:=bE (aN zV w2 gl pV qT ls);have l0:=ls 0 x rfl;have H2:=bE (bK eD (bK zW (bK tW ls)));clear eD qT o1 zW Bj tW t1 g1 Jd hi hz pW jP src hx HT wL wN zV ls;go_upto_region 15 with (first
  |(go_at_call 79
    refine(aN HW).mono ?_;rintro e iF ⟨rfl,mG⟩;subst iF)
  |(go_at_call 80
    refine(aN xC w2).mono ?_;rintro e w3 ⟨rfl,eW⟩;have H3:=bE eW;clear eW))
 have eW:bA w.heap.size w w3:=(aN H2).1.trans ((aN H3).mono (aN H2).1.size);have Sk:∀j v,([x]:List Int)[j]?=aE v->w3.cell? ⟨gl,j,aC⟩=aE (aH aF v):=λj v hv=>((eI (aN H3)).1 gl j (aN H2).2.2.1).trans ((aN H2).2.2.2 j v hv)
 have oK:=(aN HR).below eW;have c1:=cq 1 oK.mc rfl;have c3:w3.cell? ⟨rb,3,aC⟩=aE (aI O):=by rw[<-(aN HO).1];exact aZ oK.mc rfl
 have f1:=bG 1 oK.mc;have f3:=bG 3 oK.mc;have H4:=bE (mB.of (k:=k) (rest:=rest) (T:=T) (l:=[x]) (gl:=gl) eW (aN HR) (aN HN).1 (by omega) (by have:=aN HN;rw[this.2.2.1,<-this.2.1,List.take_left]) (aN So) (aN H2).2.1 Sk (O' :=O++TT) (by
  have:=aN HO;rw[<-this.1,<-this.2];exact kP _ _))
 have j0:¬(O.size:Int)+(TT.size:Int)>300:=by omega
 have j1:=wi ((O.size:Int)+(TT.size:Int));have j2:¬9223372036854775807<O.size+TT.size:=by omega
 clear eW oK Sk H2 H3 xC HW c2 l0;go_upto_region 19 with (fail)
 go_cut [] from 16 to 348 (λwx=>mB w rb vA (aJ (aE ⟨g,0,aC⟩) n cS) (aJ aR q cR) (aJ (aE ⟨g,0,aC⟩) k cS) bs {m with out:=m.out++T,S:=rest} gl [x] wx)
 case first=>
  go_region_law (fail)
  all_goals (go_wp2_with fail;go_meet;exact aN H4)
 case rest=>
 clear H4 c1 c3 f1 f3 j0 j1 j2 i0 i2 i3 Tm i4 i5 i6 i7 i8 i9 i10;obtain⟨iI,hi,hz,pW,jP⟩:=jJ;have lM:=hcut.ref;have c1:=cq 1 lM.mc rfl;have c2:=cq 2 lM.mc rfl;have f1:=bG 1 lM.mc;have f2:=bG 2 lM.mc;have l0:=hcut.ls 0 x rfl;have r0:dQ x:=(aN HR).si x (by rw[(aN HN).2.2.1];simp);obtain⟨nA,nS,nR⟩:=lM.pR;have yN :aE rb≠(aJ (aE ⟨g,0,aC⟩) k cS).ownBlock:=λe=>nS e.symm
 have dw :aE rb≠(aJ aR q cR).ownBlock:=λe=>nR e.symm
 have OS:=bE (show wc.ownsRow 0 3 1 (aJ (aE ⟨g,0,aC⟩) k cS) k (rest.map (aH aF)) from by
  have:=lM.st;rw[show({m with out:=m.out++T,S:=rest}:N.cE).S.length=k from(aN HN).2.1] at this;exact this)
 have OR:=bE (show wc.ownsRow 0 3 1 (aJ aR q cR) q (m.R.map (aH aF)) from by
  have:=lM.rt;rw[show({m with out:=m.out++T,S:=rest}:N.cE).R.length=q from(aN HN).2.2.2.2] at this;exact this)
 have HC:=bE hcut;clear hcut lM nA nS nR;obtain⟨hj,j7⟩:=aN HJ0;obtain⟨ga,cA,v,rE,Gv,En,hv3,hv4,qe,hv6,hv7,hv8,fe⟩:=(aN HC).ref.tA (j:=j) (e:=E) hj;subst rE;have c0:wc.cell? ⟨rb,0,aC⟩=aE (aJ (aE ⟨ga,0,aC⟩) m.all.length cA):=aZ (aN HC).ref.mc rfl;have Q8:j<m.all.length:=(bI.1 hj).1;have hold:=(aN HR).qU;have HJ:=bE (bK hj j7);have k1:(j:Int)<(m.all.length:Int):=by omega
 have k0:(0:Int)<=(j:Int):=by omega
 have k2:aF.wrap (x-1000)=(j:Int):=by rw[j7,IntKind.wrap_i64];omega
 have fe:=fe (j*6+2);clear Gv En hv3 hv4 hv6 hv7 hv8 hj j7 Q8;have kY:dQ E.n:=(aN HR).ni E (cG (aN HJ).1);have HD:=bE (show(m.all[(x-1000).toNat]?.map (·.n)).getD 0=E.n from by
  rw[show(x-1000).toNat=j by have:=(aN HJ).2;omega,(aN HJ).1];rfl)
 generalize hE:E.n=z at*;clear hE;obtain⟨rfl,rfl,rfl⟩:=aN HS;have nG:aE ga≠(aJ (aE ⟨g,0,aC⟩) k cS).ownBlock:=λe=>by
  obtain⟨c8,h8⟩:=cZ (aN HC).ref.st e.symm;obtain⟨c9,h9⟩:=cJ (aN HC).ref.row (k:=ga) rfl;exact absurd (cM h9 h8) (by decide)
 go_wp2;refine uR 18 (λw' :aY=>w'.cell? ⟨rb,1,aC⟩=aE (aJ (aE ⟨g,0,aC⟩) k cS)/\w'.cell? ⟨rb,0,aC⟩=aE (aJ (aE ⟨ga,0,aC⟩) m.all.length cA)/\w'.cell? ⟨ga,j*6+2,aC⟩=aE (aH aF z)) (by kernel_rfl) ⟨c1,c0,qe⟩ (λhc hS=>?_);refine uA 0 (aK (aE ⟨rb,0,aC⟩)) hc hS λhc=>?_
 refine uA 1 (aK (aE ⟨rb,0,aC⟩)) hc hS λhc=>?_
 refine uA 2 (aK (aE ⟨rb,0,aC⟩)) hc hS λhc=>?_
 refine uA 3 (aK (aE ⟨rb,1,aC⟩)) hc hS λhc=>?_
 refine uA 4 (aJ (aE ⟨g,0,aC⟩) k cS) hc hS λhc=>?_
 refine uA 5 (aK (aE ⟨rb,0,aC⟩)) hc hS λhc=>?_
 refine uA 6 (aK (aE ⟨rb,0,aC⟩)) hc hS λhc=>?_
 refine uA 7 (aK (aE ⟨rb,0,aC⟩)) hc hS λhc=>?_
 refine uA 8 (aJ (aE ⟨ga,0,aC⟩) m.all.length cA) hc hS λhc=>?_
 refine uA 9 (aH aF x) hc hS λhc=>?_
 refine uA 10 (aH aF j) hc hS λhc=>?_
 refine uA 11 (aK (aE ⟨ga,j*6,aC⟩)) hc hS λhc=>?_
 refine uA 12 (aK (aE ⟨ga,j*6+2,aC⟩)) hc hS λhc=>?_
 refine uA 13 (aH aF z) hc hS λhc=>?_
 refine uO 14 (by kernel_rfl) rfl (λK' hK=>?_);go_simp;refine hK.out _ _ (by exact⟨bJ c1 _,bJ c0 _,bJ qe _⟩) ?_;clear hK K';have hc:=hc.nx 14 (by kernel_rfl);refine uO 15 (by kernel_rfl) rfl (λK' hK=>?_);refine dW _ (by rfl) _ _ 26 (by rfl) 3 iI (aH aF 0) 8 underlying26 hi hz pW jP rfl (aJ (aE ⟨g,0,aC⟩) k cS) k (rest.map (aH aF)) (by rfl) (by exact(aN OS).alloc _) (aJ (aE ⟨wc.heap.size,0,aC⟩) 1 1) (([z]:List Int).map (aH aF)) (by rfl) (lY wc (([z]:List Int).map (aH aF)) 3 rfl rfl) (gX _) (by unfold maxLen;simp;omega) (by simp;omega) ?_;intro a3 iG w5 o3 g3 t3;have g3:(wc.alloc (aU #[aH aF z] 3)).grownBy w5 (aJ (aE ⟨g,0,aC⟩) k cS).ownBlock:=⟨g3.os,g3.tape,g3.output,g3.size,g3.block⟩
 have e1:(wc.alloc (aU #[aH aF z] 3)).cell? ⟨rb,1,aC⟩=aE (aJ (aE ⟨g,0,aC⟩) k cS):=bJ c1 _;have f4:(wc.alloc (aU #[aH aF z] 3)).frozen? ⟨rb,1,aC⟩=aV:=cY (bU wc _ aC) c1 f1 (by simp);have f5:=cY g3 e1 f4 yN;have e5:=g3.cell e1 yN;have G3:=bE (bK g3 (bK o3 t3));have e6:=g3.cell (show(wc.alloc (aU #[aH aF z] 3)).cell? ⟨rb,0,aC⟩=_ from bJ c0 _) yN;have e7:=g3.cell (show(wc.alloc (aU #[aH aF z] 3)).cell? ⟨ga,j*6+2,aC⟩=_ from bJ qe _) nG;clear g3 o3 t3 e1 f4;refine hK.out _ _ (by exact⟨e5,e6,e7⟩) ?_;clear hK K';have hc:=hc.nx 15 (by kernel_rfl);refine uA 16 (aK (aE ⟨rb,0,aC⟩)) hc (by exact⟨e5,e6,e7⟩) λhc=>?_
 refine uA 17 (aK (aE ⟨rb,1,aC⟩)) hc (by exact⟨e5,e6,e7⟩) λhc=>?_
 refine lA (by kernel_rfl) rfl (λK' hK=>?_);go_simp;refine hK.out _ _ ?_;clear hK K';refine wpAny_done (by kernel_rfl) ?_ _;go_wp2;go_ret;have hh:=mB.Gq (xs:=[z]) (aN HC) ((bF _ _).alloc (bD _) _) (aN G3).1 (aN HN).2.1 (aN G3).2.1 (aN G3).2.2 (by show k+1<=16;exact ho) (λv hv=>by
  simp only[List.mem_cons,dR,or_false] at hv;rcases hv with rfl
  ·exact kY)
 have hd:∀M:N.cE,M.all=m.all->N.kR M [64] [x] rest={M with S:=rest++[(m.all[(x-1000).toNat]?.map (·.n)).getD 0]}:=λM hM=>by rw[<-hM];rfl
 refine⟨rfl,?_⟩;show dP _ _ _ _ _ (N.kR _ [64] [x] rest) _ _;rw[hd {m with out:=m.out++T} rfl,aN HD];exact hh
theorem eu (w:aY)(rb:Nat)(vA vS vR:aG)(bs:List aG)(m:N.cE)(depth:Int)(s:ByteArray)(u a:Nat)(T:List UInt8)(rest:List Int)(x y:Int)(h:cH w rb vA vS vR bs m)(hS:m.S=rest++[x,y])(hu:u<=3)(ha:a<=1)(ho:rest.length+u<=16)(Tl:m.R.length+a<=16)(hT:m.out.length+T.length<=300)(ht:bH aQ 78 #[aI s] w λe w' =>e=aM (bC #[aH aF 2,aH aF 0,aH aF u,aH aF a])/\w' =w)(hw:∀W gl cap,cH W rb vA vS vR bs m->(∀j v,([x,y]:List Int)[j]?=aE v->W.cell? ⟨gl,j,aC⟩=aE (aH aF v))->bH aQ 79 #[aK (aE ⟨rb,0,aC⟩),aI s,(aJ (aE ⟨gl,0,aC⟩) 2 cap)] W λe w' =>e=aM (aH aF 0)/\w' =W)(sG:∀W,bH aQ 80 #[aI s,aH aF x] W λe w' =>e=aM (aI ⟨T.toArray⟩)/\bA W.heap.size W w')(hs:(s=⟨#[33]⟩/\u=0/\a=0))(j:Nat)(E:N.iM)(hj:m.all[j]?=aE E)(j7:y=1000+(j:Int)):
 bH aQ 61 #[aK (aE ⟨rb,0,aC⟩),aI s,aH aF depth] w λe w' =>e=aM (aH aF 0)/\dP rb vA vS vR bs (N.kR {m with out:=m.out++T} s.data.toList [x,y] rest) w w' :=by
 obtain⟨iI,hi,hz,pW,jP⟩:=jJ;obtain⟨aS,cS,rfl,lU,qJ⟩:=cU h.st;obtain⟨aR,cR,rfl,Ti,mH⟩:=cU h.rt;obtain⟨g,cap,vJ,Tf,zX⟩:=h.st.form (by rw[hS];simp);have Nt:=eM vJ;subst Nt;clear vJ cap qJ mH Tf zX;have c1:=cq 1 h.mc rfl;have c2:=cq 2 h.mc rfl;have xJ:=h.sl;have xH:=h.rl;have hlen:m.S.length=rest.length+2:=by rw[hS];simp
 have src:lN w (aJ (if cS=rest.length then(aE ⟨g,0,aC⟩:Option Addr) else aE ⟨g,rest.length,aC⟩) (m.S.length-rest.length) (cS-rest.length)) (([x,y]:List Int).map (aH aF)):=by
  have:=kL (k:=rest.length) h.st lU (by omega);have e1:(m.S.map (aH aF)).drop rest.length=([x,y]:List Int).map (aH aF):=by rw[hS,<-List.map_drop,List.drop_left]
  rwa[e1] at this
 have HR:=bE h;have zV:=bE hw;have xC:=bE sG;have HT:=bE ht;have HS:=bE hs;have So:=bE hT;have mU:(⟨m.out.toArray⟩:ByteArray).size+(⟨T.toArray⟩:ByteArray).size<=300:=by simpa[ByteArray.size] using hT
 generalize hO:(⟨m.out.toArray⟩:ByteArray)=O at mU;generalize zT:(⟨T.toArray⟩:ByteArray)=TT at mU xC;have HO:=bE (bK hO zT);clear h hO zT hw sG ht hs hT;generalize hn:m.S.length=n at*;generalize hk:rest.length=k at*;generalize hr:m.R.length=q at*;generalize hx:(if cS=k then(aE ⟨g,0,aC⟩:Option Addr) else aE ⟨g,k,aC⟩)=xS at*;have HN:=bE (bK hn (bK hk (bK hS (bK hlen hr))));have i0:aF.wrap ((n:Int)-2)=(k:Int):=wj;have i1:(0:Int)<=(k:Int):=by omega
 have i2:(k:Int)<=(n:Int):=by omega
 have i3:(n:Int)<=(cS:Int):=by omega
 have Tm :(k:Int)<=(cS:Int):=by omega
 have i4:¬(n:Int)<2:=by omega
 have i5:¬(q:Int)<0:=by omega
 have i6:=wi ((k:Int)+(u:Int));have i7:¬(k:Int)+(u:Int)>16:=by omega
 have i8:=wi (q:Int);have i9:=wi ((q:Int)+(a:Int));have i10:¬(q:Int)+(a:Int)>16:=by omega
 have wL:0+(([x,y]:List Int).map (aH aF)).length<=maxLen:=by unfold maxLen;simp
 have wN:(0+(([x,y]:List Int).map (aH aF)).length)*8<=140737488355328:=by simp
 clear hn hk hS hlen hr;go_enter func61,ntmps61;go_wp2_with (
  go_at_call 78
  refine(aN HT).mono ?_;rintro e iF ⟨rfl,mG⟩;subst iF)
 go_region_held3 (λw' =>w'.cell? ⟨rb,1,aC⟩=aE (aJ (aE ⟨g,0,aC⟩) n cS)) (first|exact c1|go_keep)
  (first
    |(refine dW _ (by rfl) _ _ _ (by rfl) 3 iI (aH aF 0) 8 underlying26 hi hz pW jP rfl (aJ aC 0 0) 0 [] (by rfl) (aY.ownsRow_nil _ _ _ _) (aJ xS (n-k) (cS-k)) (([x,y]:List Int).map (aH aF)) (by rfl) (by exact src) (gX _) wL wN ?_
      intro a1 pV w2 o1 g1 t1;have g1:w.grownBy w2 aC:=⟨g1.os,g1.tape,g1.output,g1.size,g1.block⟩
      have c1:=g1.cell c1 (by simp)))
 simp only[List.map_cons,List.map_nil,cX,List.length_nil,dC,Nat.reduceAdd,List.nil_append] at o1 t1;have eD:bA w.heap.size w w2:=⟨g1.os,g1.tape,g1.output,g1.size,λk hk=>g1.block k hk (by simp)⟩
 obtain⟨gl,cl,Jd,Bj,tW⟩:=o1.form (by simp);have Jv:=eM Jd;subst Jv;have zW:w.heap.size<=gl:=by
  rcases t1 with t1|t1
  ·cases t1
  ·injection t1 with t1;exact Nat.le_of_eq t1.symm
 have ls:∀j v,([x,y]:List Int)[j]?=aE v->w2.cell? ⟨gl,j,aC⟩=aE (aH aF v):=λj v hv=>by
  have:=o1.cells (g:=gl) rfl j (aH aF v) (by
   have h1:(([x,y]:List Int).map (aH aF))[j]?=aE (aH aF v):=by rw[cI,hv];rfl
   exact h1)
  rwa[fE,dC] at this
 have qT:=(aN HR).below eD;have c2:=cq 2 qT.mc rfl;have HW:=bE (aN zV w2 gl pV qT ls);have l0:=ls 0 x rfl;have H2:=bE (bK eD (bK zW (bK tW ls)));clear eD qT o1 zW Bj tW t1 g1 Jd hi hz pW jP src hx HT wL wN zV ls;go_upto_region 15 with (first
  |(go_at_call 79
    refine(aN HW).mono ?_;rintro e iF ⟨rfl,mG⟩;subst iF)
  |(go_at_call 80
    refine(aN xC w2).mono ?_;rintro e w3 ⟨rfl,eW⟩;have H3:=bE eW;clear eW))
 have eW:bA w.heap.size w w3:=(aN H2).1.trans ((aN H3).mono (aN H2).1.size);have Sk:∀j v,([x,y]:List Int)[j]?=aE v->w3.cell? ⟨gl,j,aC⟩=aE (aH aF v):=λj v hv=>((eI (aN H3)).1 gl j (aN H2).2.2.1).trans ((aN H2).2.2.2 j v hv)
 have oK:=(aN HR).below eW;have c1:=cq 1 oK.mc rfl;have c3:w3.cell? ⟨rb,3,aC⟩=aE (aI O):=by rw[<-(aN HO).1];exact aZ oK.mc rfl
 have f1:=bG 1 oK.mc;have f3:=bG 3 oK.mc;have H4:=bE (mB.of (k:=k) (rest:=rest) (T:=T) (l:=[x,y]) (gl:=gl) eW (aN HR) (aN HN).1 (by omega) (by have:=aN HN;rw[this.2.2.1,<-this.2.1,List.take_left]) (aN So) (aN H2).2.1 Sk (O' :=O++TT) (by
  have:=aN HO;rw[<-this.1,<-this.2];exact kP _ _))
 have j0:¬(O.size:Int)+(TT.size:Int)>300:=by omega
 have j1:=wi ((O.size:Int)+(TT.size:Int));have j2:¬9223372036854775807<O.size+TT.size:=by omega
 clear eW oK Sk H2 H3 xC HW c2 l0;go_upto_region 19 with (fail)
 go_cut [] from 16 to 348 (λwx=>mB w rb vA (aJ (aE ⟨g,0,aC⟩) n cS) (aJ aR q cR) (aJ (aE ⟨g,0,aC⟩) k cS) bs {m with out:=m.out++T,S:=rest} gl [x,y] wx)
 case first=>
  go_region_law (fail)
  all_goals (go_wp2_with fail;go_meet;exact aN H4)
 case rest=>
 clear H4 c1 c3 f1 f3 j0 j1 j2 i0 i2 i3 Tm i4 i5 i6 i7 i8 i9 i10;obtain⟨iI,hi,hz,pW,jP⟩:=jJ;have lM:=hcut.ref;have c1:=cq 1 lM.mc rfl;have c2:=cq 2 lM.mc rfl;have f1:=bG 1 lM.mc;have f2:=bG 2 lM.mc;have l0:=hcut.ls 0 x rfl;have r0:dQ x:=(aN HR).si x (by rw[(aN HN).2.2.1];simp);have l1:=hcut.ls 1 y rfl;have r1:dQ y:=(aN HR).si y (by rw[(aN HN).2.2.1];simp);obtain⟨nA,nS,nR⟩:=lM.pR;have yN :aE rb≠(aJ (aE ⟨g,0,aC⟩) k cS).ownBlock:=λe=>nS e.symm
 have dw :aE rb≠(aJ aR q cR).ownBlock:=λe=>nR e.symm
 have OS:=bE (show wc.ownsRow 0 3 1 (aJ (aE ⟨g,0,aC⟩) k cS) k (rest.map (aH aF)) from by
  have:=lM.st;rw[show({m with out:=m.out++T,S:=rest}:N.cE).S.length=k from(aN HN).2.1] at this;exact this)
 have OR:=bE (show wc.ownsRow 0 3 1 (aJ aR q cR) q (m.R.map (aH aF)) from by
  have:=lM.rt;rw[show({m with out:=m.out++T,S:=rest}:N.cE).R.length=q from(aN HN).2.2.2.2] at this;exact this)
 have HC:=bE hcut;clear hcut lM nA nS nR;obtain⟨ga,cA,v,rE,Gv,En,hv3,hv4,qe,hv6,hv7,hv8,fe⟩:=(aN HC).ref.tA (j:=j) (e:=E) hj;subst rE;have c0:wc.cell? ⟨rb,0,aC⟩=aE (aJ (aE ⟨ga,0,aC⟩) m.all.length cA):=aZ (aN HC).ref.mc rfl;have Q8:j<m.all.length:=(bI.1 hj).1;have hold:=(aN HR).qU;have HJ:=bE (bK hj j7);have k1:(j:Int)<(m.all.length:Int):=by omega
 have k0:(0:Int)<=(j:Int):=by omega
 have k2:aF.wrap (y-1000)=(j:Int):=by rw[j7,IntKind.wrap_i64];omega
 have fe:=fe (j*6+2);clear Gv En hv3 hv4 hv6 hv7 hv8 hj j7 Q8;obtain⟨rfl,rfl,rfl⟩:=aN HS;go_wp2;go_region_law (fail)
 all_goals
  go_wp2;go_ret;have hc:=aN HC;have hh:=hc.ref.UY (m:={m with out:=m.out++T,S:=rest}) (j:=j) (f:=2) (e:=E) (e' :={E with n:=x}) (x:=aH aF x) (aN HJ).1 (by omega) (λv=>rfl) (λx=>⟨x,rfl⟩) r0;have hm:m.all.modify (y-1000).toNat (λe=>{e with n:=x})=m.all.set j {E with n:=x}:=by
   rw[show(y-1000).toNat=j by have:=(aN HJ).2;omega];exact Qt (aN HJ).1 _
  have hd:N.kR {m with out:=m.out++T} [33] [x,y] rest={m with out:=m.out++T,S:=rest,all:=m.all.set j {E with n:=x}}:=by rw[<-hm];rfl
  refine⟨rfl,?_⟩;show dP _ _ _ _ _ (N.kR {m with out:=m.out++T} [33] [x,y] rest) _ _;rw[hd];refine dP.drew ⟨_,_,_,hh,?_,hc.fr⟩;exact Mv.setCell (p:=⟨ga,j*6+2,aC⟩) hc.mv (.inl (.inr (.inl rfl))) _
theorem WI (w:aY)(rb:Nat)(vA vS vR:aG)(bs:List aG)(m:N.cE)(depth:Int)(s:ByteArray)(u a:Nat)(T:List UInt8)(rest:List Int)(x:Int)(h:cH w rb vA vS vR bs m)(hS:m.S=rest++[x])(hu:u<=3)(ha:a<=1)(ho:rest.length+u<=16)(Tl:m.R.length+a<=16)(hT:m.out.length+T.length<=300)(ht:bH aQ 78 #[aI s] w λe w' =>e=aM (bC #[aH aF 1,aH aF 0,aH aF u,aH aF a])/\w' =w)(hw:∀W gl cap,cH W rb vA vS vR bs m->(∀j v,([x]:List Int)[j]?=aE v->W.cell? ⟨gl,j,aC⟩=aE (aH aF v))->bH aQ 79 #[aK (aE ⟨rb,0,aC⟩),aI s,(aJ (aE ⟨gl,0,aC⟩) 1 cap)] W λe w' =>e=aM (aH aF 0)/\w' =W)(sG:∀W,bH aQ 80 #[aI s,aH aF x] W λe w' =>e=aM (aI ⟨T.toArray⟩)/\bA W.heap.size W w')(hs:(s=⟨#[101,120,101,99,117,116,101]⟩/\u=0/\a=0))(j:Nat)(j7:x=1000+(j:Int))(hj:(j:Int)<=1000000000000)(code:Int)(M' :N.cE)(fK:∀W pU,cH W rb vA pU vR bs {m with out:=m.out++T,S:=rest}->bH aQ 60 #[aK (aE ⟨rb,0,aC⟩),aH aF j,aH aF depth] W λe w' =>e=aM (aH aF code)/\dP rb vA pU vR bs M' W w'):
 bH aQ 61 #[aK (aE ⟨rb,0,aC⟩),aI s,aH aF depth] w λe w' =>e=aM (aH aF code)/\dP rb vA vS vR bs M' w w' :=by
 obtain⟨iI,hi,hz,pW,jP⟩:=jJ;obtain⟨aS,cS,rfl,lU,qJ⟩:=cU h.st;obtain⟨aR,cR,rfl,Ti,mH⟩:=cU h.rt;obtain⟨g,cap,vJ,Tf,zX⟩:=h.st.form (by rw[hS];simp);have Nt:=eM vJ;subst Nt;clear vJ cap qJ mH Tf zX;have c1:=cq 1 h.mc rfl;have c2:=cq 2 h.mc rfl;have xJ:=h.sl;have xH:=h.rl;have hlen:m.S.length=rest.length+1:=by rw[hS];simp
 have src:lN w (aJ (if cS=rest.length then(aE ⟨g,0,aC⟩:Option Addr) else aE ⟨g,rest.length,aC⟩) (m.S.length-rest.length) (cS-rest.length)) (([x]:List Int).map (aH aF)):=by
  have:=kL (k:=rest.length) h.st lU (by omega);have e1:(m.S.map (aH aF)).drop rest.length=([x]:List Int).map (aH aF):=by rw[hS,<-List.map_drop,List.drop_left]
  rwa[e1] at this
 have HR:=bE h;have zV:=bE hw;have xC:=bE sG;have HT:=bE ht;have HS:=bE hs;have HOWN:=bE fK;have k2:aF.wrap (x-1000)=(j:Int):=by rw[j7,IntKind.wrap_i64];omega
 clear fK j7 hj;have So:=bE hT;have mU:(⟨m.out.toArray⟩:ByteArray).size+(⟨T.toArray⟩:ByteArray).size<=300:=by simpa[ByteArray.size] using hT
 generalize hO:(⟨m.out.toArray⟩:ByteArray)=O at mU;generalize zT:(⟨T.toArray⟩:ByteArray)=TT at mU xC;have HO:=bE (bK hO zT);clear h hO zT hw sG ht hs hT;generalize hn:m.S.length=n at*;generalize hk:rest.length=k at*;generalize hr:m.R.length=q at*;generalize hx:(if cS=k then(aE ⟨g,0,aC⟩:Option Addr) else aE ⟨g,k,aC⟩)=xS at*;have HN:=bE (bK hn (bK hk (bK hS (bK hlen hr))));have i0:aF.wrap ((n:Int)-1)=(k:Int):=wj;have i1:(0:Int)<=(k:Int):=by omega
 have i2:(k:Int)<=(n:Int):=by omega
 have i3:(n:Int)<=(cS:Int):=by omega
 have Tm :(k:Int)<=(cS:Int):=by omega
 have i4:¬(n:Int)<1:=by omega
 have i5:¬(q:Int)<0:=by omega
 have i6:=wi ((k:Int)+(u:Int));have i7:¬(k:Int)+(u:Int)>16:=by omega
 have i8:=wi (q:Int);have i9:=wi ((q:Int)+(a:Int));have i10:¬(q:Int)+(a:Int)>16:=by omega
 have wL:0+(([x]:List Int).map (aH aF)).length<=maxLen:=by unfold maxLen;simp
 have wN:(0+(([x]:List Int).map (aH aF)).length)*8<=140737488355328:=by simp
 clear hn hk hS hlen hr;go_enter func61,ntmps61;go_wp2_with (
  go_at_call 78
  refine(aN HT).mono ?_;rintro e iF ⟨rfl,mG⟩;subst iF)
 go_region_held3 (λw' =>w'.cell? ⟨rb,1,aC⟩=aE (aJ (aE ⟨g,0,aC⟩) n cS)) (first|exact c1|go_keep)
  (first
    |(refine dW _ (by rfl) _ _ _ (by rfl) 3 iI (aH aF 0) 8 underlying26 hi hz pW jP rfl (aJ aC 0 0) 0 [] (by rfl) (aY.ownsRow_nil _ _ _ _) (aJ xS (n-k) (cS-k)) (([x]:List Int).map (aH aF)) (by rfl) (by exact src) (gX _) wL wN ?_
      intro a1 pV w2 o1 g1 t1;have g1:w.grownBy w2 aC:=⟨g1.os,g1.tape,g1.output,g1.size,g1.block⟩
      have c1:=g1.cell c1 (by simp)))
 simp only[List.map_cons,List.map_nil,cX,List.length_nil,dC,List.nil_append] at o1 t1;have eD:bA w.heap.size w w2:=⟨g1.os,g1.tape,g1.output,g1.size,λk hk=>g1.block k hk (by simp)⟩
 obtain⟨gl,cl,Jd,Bj,tW⟩:=o1.form (by simp);have Jv:=eM Jd;subst Jv;have zW:w.heap.size<=gl:=by
  rcases t1 with t1|t1
  ·cases t1
  ·injection t1 with t1;exact Nat.le_of_eq t1.symm
 have ls:∀j v,([x]:List Int)[j]?=aE v->w2.cell? ⟨gl,j,aC⟩=aE (aH aF v):=λj v hv=>by
  have:=o1.cells (g:=gl) rfl j (aH aF v) (by
   have h1:(([x]:List Int).map (aH aF))[j]?=aE (aH aF v):=by rw[cI,hv];rfl
   exact h1)
  rwa[fE,dC] at this
 have qT:=(aN HR).below eD;have c2:=cq 2 qT.mc rfl;have HW:=bE (aN zV w2 gl pV qT ls);have l0:=ls 0 x rfl;have H2:=bE (bK eD (bK zW (bK tW ls)));clear eD qT o1 zW Bj tW t1 g1 Jd hi hz pW jP src hx HT wL wN zV ls;go_upto_region 15 with (first
  |(go_at_call 79
    refine(aN HW).mono ?_;rintro e iF ⟨rfl,mG⟩;subst iF)
  |(go_at_call 80
    refine(aN xC w2).mono ?_;rintro e w3 ⟨rfl,eW⟩;have H3:=bE eW;clear eW))
 have eW:bA w.heap.size w w3:=(aN H2).1.trans ((aN H3).mono (aN H2).1.size);have Sk:∀j v,([x]:List Int)[j]?=aE v->w3.cell? ⟨gl,j,aC⟩=aE (aH aF v):=λj v hv=>((eI (aN H3)).1 gl j (aN H2).2.2.1).trans ((aN H2).2.2.2 j v hv)
 have oK:=(aN HR).below eW;have c1:=cq 1 oK.mc rfl;have c3:w3.cell? ⟨rb,3,aC⟩=aE (aI O):=by rw[<-(aN HO).1];exact aZ oK.mc rfl
 have f1:=bG 1 oK.mc;have f3:=bG 3 oK.mc;have H4:=bE (mB.of (k:=k) (rest:=rest) (T:=T) (l:=[x]) (gl:=gl) eW (aN HR) (aN HN).1 (by omega) (by have:=aN HN;rw[this.2.2.1,<-this.2.1,List.take_left]) (aN So) (aN H2).2.1 Sk (O' :=O++TT) (by
  have:=aN HO;rw[<-this.1,<-this.2];exact kP _ _))
 have j0:¬(O.size:Int)+(TT.size:Int)>300:=by omega
 have j1:=wi ((O.size:Int)+(TT.size:Int));have j2:¬9223372036854775807<O.size+TT.size:=by omega
 clear eW oK Sk H2 H3 xC HW c2 l0;go_upto_region 19 with (fail)
 go_cut [] from 16 to 348 (λwx=>mB w rb vA (aJ (aE ⟨g,0,aC⟩) n cS) (aJ aR q cR) (aJ (aE ⟨g,0,aC⟩) k cS) bs {m with out:=m.out++T,S:=rest} gl [x] wx)
 case first=>
  go_region_law (fail)
  all_goals (go_wp2_with fail;go_meet;exact aN H4)
 case rest=>
 clear H4 c1 c3 f1 f3 j0 j1 j2 i0 i2 i3 Tm i4 i5 i6 i7 i8 i9 i10;obtain⟨rfl,rfl,rfl⟩:=aN HS;have HC:=bE hcut;clear hcut;go_wp2_with (
  go_at_call 60
  refine(aN HOWN wc _ (aN HC).ref).mono ?_;rintro e w5 ⟨rfl,hg⟩;have HG:=bE hg;clear hg)
 go_ret;exact⟨rfl,dP.trans (aN HC).mv (aN HC).fr (aN HG)⟩
end
variable {k:Nat}
theorem Un {ls:List ByteArray}{p:ByteArray->Bool}(hk:k<ls.length)(h:(ls.take k).any p=aV)(hp:p ls[k]=aV):(ls.take (k+1)).any p=aV:=by
 rw[dF hk,List.any_append,h];simp[hp]
theorem QK (s:ByteArray)(b o c:Nat)(ls:List ByteArray)(w:aY)(hl:ls.length<=4294967296)(hc:∀j (hj:j<ls.length),w.cell? ⟨b,o+j,aC⟩=aE (aI ls[j])):
 bH aQ 41 #[aI s,aJ (aE ⟨b,o,aC⟩) ls.length c] w λe w' =>e=aM (bB (ls.any λx=>x.toList==s.toList))/\w' =w:=by
 have HC:=bE hc;clear hc;go_enter func41,ntmps41;go_wp2
 go_loop [5] (λi=>∃k:Nat,k<=ls.length/\i=aH aF k/\(ls.take k).any (λx=>x.toList==s.toList)=aV) (λi=>ls.length-(intOf i).toNat)
 case atStart=>exact⟨0,bZ _,rfl,rfl⟩
 case round=>
  obtain⟨k,hk,rfl,mO⟩:=hrel;have SU:=bE mO;clear mO;by_cases eQ:k<ls.length
  ·have hck:=aN HC k eQ;by_cases he:(ls[k].toList==s.toList)=aX
   ·go_wp2;go_ret;refine⟨mD ?_,rfl⟩
    symm
    rw[List.any_eq_true];exact⟨ls[k],List.getElem_mem eQ,he⟩
   ·have Kt:(ls[k].toList==s.toList)=aV:=by simpa using he
    clear he;go_wp2;exact⟨⟨k+1,by omega,by go_num,Un eQ (aN SU) Kt⟩,by simp[intOf];omega⟩
  ·go_wp2;go_ret;refine⟨mD ?_,rfl⟩;have:=aN SU;rw[eB (by omega)] at this;exact this.symm
theorem PR (s:ByteArray)(w:aY):
 bH aQ 41 #[aI s,aJ aC 0 0] w λe w' =>e=aM (bB aV)/\w' =w:=by
 go_enter func41,ntmps41;go_wp2
 go_loop [5] (λi=>i=aH aF 0) (λ_=>0)
 case atStart=>rfl
 case round=>
  obtain rfl:=hrel;go_wp2;go_ret;exact⟨rfl,rfl⟩
theorem sP (s:ByteArray)(g c:Nat)(ls:List (List UInt8))(w:aY)(t:TypeId)(hl:ls.length<=4294967296)(hg:w.heap[g]?=aE (aU (ls.map λl=>aI ⟨l.toArray⟩).toArray t)):
 bH aQ 41 #[aI s,aJ (aE ⟨g,0,aC⟩) ls.length c] w λe w' =>e=aM (bB (ls.any λb=>s.toList==b))/\w' =w:=by
 have h:=QK s g 0 c (ls.map λl=>⟨l.toArray⟩) w (by simpa using hl) (λj hj=>by
  rw[dC,cell_of_row w g j _ t (0,0) hg];simp at hj;simp[hj])
 rw[dO] at h;refine h.mono λe w' hh=>⟨?_,hh.2⟩
 rw[hh.1,List.any_map];refine congrArg (λp=>aM (bB (ls.any p))) (funext λl=>?_);have:(⟨l.toArray⟩:ByteArray).toList=l:=by rw[Go.ByteArray.toList_eq]
 simp only[Function.comp,this];rw[Bool.eq_iff_iff,beq_iff_eq,beq_iff_eq];exact eq_comm
theorem rI (s:ByteArray)(w:aY):
 bH aQ 54 #[aI s] w λe w' =>e=aM (bB (L.fJ s.toList))/\bA w.heap.size w w' :=by
 go_enter func54,ntmps54;go_wp2_with fail
 refine(sP s w.heap.size 21 L.wR _ 9 (by decide) (heap_alloc_new w _)).mono ?_;rintro e w' ⟨rfl,rfl⟩;go_wp2;go_ret;exact⟨rfl,(bF _ _).alloc (bD _) _⟩
def FK:List (List UInt8):=[[43],[45],[42],[47],[109,111,100],[61],[60],[62],[97,110,100],[111,114],[120,111,114],[110,111,116],[100,117,112],[100,114,111,112],[115,119,97,112],[111,118,101,114],[114,111,116]]
def EW:List (List UInt8):=[[62,114],[114,62],[114,64],[100,101,112,116,104],[46],[101,109,105,116],[99,114],[64],[33],[101,120,101,99,117,116,101]]
def rC (l:List UInt8):Bool:=(FK.any λb=>l==b)||(EW.any λb=>l==b)
theorem QX (s:ByteArray)(w:aY):
 bH aQ 75 #[aI s] w λe w' =>e=aM (bB (rC s.toList))/\bA w.heap.size w w' :=by
 go_enter func75,ntmps75;go_wp2_with fail
 refine(sP s w.heap.size 17 FK _ 9 (by decide) (heap_alloc_new w _)).mono ?_;rintro e w' ⟨rfl,rfl⟩;cases hA:FK.any λb=>s.toList==b with
 |true=>
  have Hp:=bE (show rC s.toList=aX by unfold rC;rw[hA];rfl);clear hA;go_wp2;go_ret;exact⟨mD (aN Hp).symm,(bF _ _).alloc (bD _) _⟩
 |false=>
  have Hp:=bE (show rC s.toList=(EW.any λb=>s.toList==b) by unfold rC;rw[hA];rfl);clear hA;go_wp2_with fail
  refine(sP s (w.heap.size+1) 10 EW _ 9 (by decide) (lF w _ _)).mono ?_;rintro e w' ⟨rfl,rfl⟩;go_wp2;go_ret;exact⟨mD (aN Hp).symm,((bF _ _).alloc (bD _) _).alloc (by simp) _⟩
section
attribute [local go_sem ↓] Go.wp_at_zero Go.wp_at_succ
def Ax (w:aY) (gb:Nat) (l:List N.Cell):Prop:=∀j c,l[j]?=aE c->w.cell? ⟨gb,j*3,aC⟩=aE (aH aF c.kind)/\w.cell? ⟨gb,j*3+1,aC⟩=aE (aH aF c.n)/\w.cell? ⟨gb,j*3+2,aC⟩=aE (aI ⟨c.name.toArray⟩)
def kE (w:aY) (g:Nat) (ls:List N.eE):Prop:=w.heap[g]?=aE (aU (ls.map λl=>aI ⟨l.toArray⟩).toArray 9)/\ls.length<=40
theorem Zx (op:N.eE)(shut want:List N.eE)(c:N.Cell)(t:List N.Cell)(i:Nat)(d:Int):N.fC op shut want (c::t) i d=
 if c.kind≠4 then N.fC op shut want t (i+1) d
 else if d=0/\want.any (λb=>c.name==b)=aX then i+1
 else if c.name==op then N.fC op shut want t (i+1) (d+1)
 else if shut.any (λb=>c.name==b) then N.fC op shut want t (i+1) (d-1)
 else N.fC op shut want t (i+1) d:=by rw[N.fC]
theorem Gd (w:aY)(gb cb gs cs gw cw:Nat)(l:List N.Cell)(at' :Nat)(op:N.eE)(shut want:List N.eE)(hl:l.length<=60)(kD:at' < l.length)(hc:Ax w gb l)(hs:kE w gs shut)(hw:kE w gw want):
 bH aQ 117 #[aJ (aE ⟨gb,0,aC⟩) l.length cb,aH aF at',aI ⟨op.toArray⟩,aJ (aE ⟨gs,0,aC⟩) shut.length cs,aJ (aE ⟨gw,0,aC⟩) want.length cw] w λe w' =>e=aM (aH aF ((N.ahead l at' op shut want:Nat):Int))/\w' =w:=by
 have Sr:(⟨op.toArray⟩:ByteArray).toList=op:=by rw[Go.ByteArray.toList_eq]
 have HS:=bE (λs:ByteArray=>sP s gs cs shut w 9 (cF hs.2 (by decide)) hs.1);have HW:=bE (λs:ByteArray=>sP s gw cw want w 9 (cF hw.2 (by decide)) hw.1);have HC:=bE hc;clear hc hs hw;generalize dJ:N.ahead l at' op shut want=res;unfold N.ahead at dJ;have rN:=bE dJ;clear dJ;generalize hn:l.length=n at*;have Hn:=bE hn;clear hn;generalize shut.length=ns at*;generalize want.length=nw at*;have i0:=wi ((at' :Int)+1);go_enter func117,ntmps117;go_wp2
 go_loop [11,12] (λdv i=>∃(k:Nat) (d:Int),at' +1<=k/\k<=n/\i=aH aF k/\dv=aH aF d/\-(k:Int)<=d/\d<=(k:Int)/\N.fC op shut want (l.drop k) k d=res) (λ_ i=>match i with|aH _ k=>n-k.toNat|_=>0)
 case atStart=>exact⟨at' +1,0,bD _,by omega,rfl,rfl,by omega,by omega,aN rN⟩
 case round=>
  obtain⟨k,d,hk0,hk,rfl,rfl,hd0,u5,sY⟩:=hrel;by_cases eQ:k<n
  ·obtain⟨c,GR⟩:∃c,l[k]?=aE c:=⟨_,bL (by rw[aN Hn];exact eQ)⟩
   have EF:l.drop k=c::l.drop (k+1):=by
    have hx:=(bI.1 GR)
    rw[List.drop_eq_getElem_cons hx.1,hx.2]
   rw[EF,Zx] at sY;obtain⟨q0,_,q2⟩:=aN HC k c GR;have HL:=bE sY;have Mh:(⟨c.name.toArray⟩:ByteArray).toList=c.name:=by rw[Go.ByteArray.toList_eq]
   have HSk:=bE (aN HS ⟨c.name.toArray⟩);have HWk:=bE (aN HW ⟨c.name.toArray⟩);clear sY EF GR;have k1:(k:Int)<(n:Int):=by omega
   have k0:(0:Int)<=(k:Int):=by omega
   have k2:=wi ((k:Int)+1);have dec:n-((k:Int)+1).toNat<n-(k:Int).toNat:=by omega
   have Dec:=bE dec;clear dec;by_cases h4:c.kind=4
   ·rw[h4] at q0;have n4:¬c.kind≠4:=λh=>h h4
    have uP:=bE (show(if d=0/\want.any (λb=>c.name==b)=aX then k+1 else if c.name==op then N.fC op shut want (l.drop (k+1)) (k+1) (d+1) else if shut.any (λb=>c.name==b) then N.fC op shut want (l.drop (k+1)) (k+1) (d-1) else N.fC op shut want (l.drop (k+1)) (k+1) d)=res from by have:=aN HL;rwa[dL n4] at this);clear HL h4 n4;generalize hvw:(want.any λb=>(⟨c.name.toArray⟩:ByteArray).toList==b)=vw at HWk;generalize hvs:(shut.any λb=>(⟨c.name.toArray⟩:ByteArray).toList==b)=vs at HSk;rw[Mh] at hvw hvs;rw[hvw,hvs] at uP;clear hvw hvs;go_wp2_with fail
    refine(aN HWk).mono ?_;rintro e iF ⟨rfl,mG⟩;subst iF;go_wp2_with fail
    refine(aN HSk).mono ?_;rintro e iF ⟨rfl,mG⟩;subst iF;by_cases hd:d=0/\vw=aX
    ·have S4:=bE (show k+1=res from by have:=aN uP;rwa[eJ hd] at this);obtain⟨rfl,rfl⟩:=hd;clear uP;go_wp2;go_ret;exact⟨Al (by rw[<-aN S4];rfl),rfl⟩
    ·have S4:=bE (show(if c.name==op then N.fC op shut want (l.drop (k+1)) (k+1) (d+1) else if vs then N.fC op shut want (l.drop (k+1)) (k+1) (d-1) else N.fC op shut want (l.drop (k+1)) (k+1) d)=res from by have:=aN uP;rwa[dL hd] at this);clear uP;have j1:aF.wrap (d+1)=d+1:=wj;have j2:aF.wrap (d-1)=d-1:=wj;clear Mh Sr;have fin:∀d' :Int,-((k+1:Nat):Int)<=d' ->d' <=((k+1:Nat):Int)->N.fC op shut want (l.drop (k+1)) (k+1) d' =res->(∃(k' :Nat) (d2:Int),at' +1<=k' /\k' <=n/\aH aF ((k:Int)+1)=aH aF k'/\aH aF d' =aH aF d2/\-(k' :Int)<=d2/\d2<=(k' :Int)/\N.fC op shut want (l.drop k') k' d2=res)/\n-((k:Int)+1).toNat<n-(k:Int).toNat:=λd' h1 h2 h3=>⟨⟨k+1,d',by omega,by omega,rfl,rfl,h1,h2,h3⟩,aN Dec⟩
     have Fin:=bE fin;clear fin;cases ed:(c.name==op) with
     |true=>
      have dt:=bE (show N.fC op shut want (l.drop (k+1)) (k+1) (d+1)=res from by have:=aN S4;rwa[ed] at this);clear S4;by_cases zO:d=0
      ·have hv:vw=aV:=by cases vw with|true=>exact(hd ⟨zO,rfl⟩).elim|false=>rfl
       subst hv;subst zO;clear hd;go_wp2;exact aN Fin _ (by omega) (by omega) (aN dt)
      ·clear hd;have EO:(d==0)=aV:=by rw[beq_eq_false_iff_ne];exact zO
       go_wp2;exact aN Fin _ (by omega) (by omega) (aN dt)
     |false=>
      cases vs with
      |true=>
       have dt:=bE (show N.fC op shut want (l.drop (k+1)) (k+1) (d-1)=res from by have:=aN S4;rwa[ed] at this);clear S4;by_cases zO:d=0
       ·have hv:vw=aV:=by cases vw with|true=>exact(hd ⟨zO,rfl⟩).elim|false=>rfl
        subst hv;subst zO;clear hd;go_wp2;exact aN Fin _ (by omega) (by omega) (aN dt)
       ·clear hd;have EO:(d==0)=aV:=by rw[beq_eq_false_iff_ne];exact zO
        go_wp2;exact aN Fin _ (by omega) (by omega) (aN dt)
      |false=>
       have dt:=bE (show N.fC op shut want (l.drop (k+1)) (k+1) d=res from by have:=aN S4;rwa[ed] at this);clear S4;by_cases zO:d=0
       ·have hv:vw=aV:=by cases vw with|true=>exact(hd ⟨zO,rfl⟩).elim|false=>rfl
        subst hv;subst zO;clear hd;go_wp2;exact aN Fin _ (by omega) (by omega) (aN dt)
       ·clear hd;have EO:(d==0)=aV:=by rw[beq_eq_false_iff_ne];exact zO
        go_wp2;exact aN Fin _ (by omega) (by omega) (aN dt)
   ·have hn4:c.kind≠4:=h4;have Gx:((c.kind:Int)==4)=aV:=by rw[beq_eq_false_iff_ne];omega
    have uP:=bE (show N.fC op shut want (l.drop (k+1)) (k+1) d=res from by have:=aN HL;rwa[eJ hn4] at this);clear HL h4 hn4;generalize(c.kind:Int)=ck at*;go_wp2;exact⟨⟨k+1,d,by omega,by omega,rfl,rfl,by omega,by omega,aN uP⟩,aN Dec⟩
  ·have k1:¬(k:Int)<(n:Int):=by omega
   have Mp:k=n:=by omega
   have uP:=bE (show n=res from by
    rw[List.drop_eq_nil_of_le (by rw[aN Hn];omega)] at sY;rw[<-sY,N.fC,Mp])
   clear sY Mp;go_wp2;go_ret;exact⟨Al (by rw[<-aN uP];rfl),rfl⟩
variable {c:N.Cell}{i:Nat}
theorem w8 {l:List N.Cell}(op:N.eE)(shut:List N.eE)(d:Int)(h:l[i]?=aE c):N.fV l op shut (i+1) d=
 if c.kind≠4 then N.fV l op shut i d
 else if c.name==op/\d=0 then i+1
 else if c.name==op then N.fV l op shut i (d-1)
 else if shut.any (λb=>c.name==b) then N.fV l op shut i (d+1)
 else N.fV l op shut i d:=by
 rw[N.fV,h]
theorem Dz (w:aY)(gb cb gs cs:Nat)(l:List N.Cell)(at' :Nat)(op:N.eE)(shut:List N.eE)(hl:l.length<=60)(kD:at' < l.length)(hc:Ax w gb l)(hs:kE w gs shut):
 bH aQ 118 #[aJ (aE ⟨gb,0,aC⟩) l.length cb,aH aF at',aI ⟨op.toArray⟩,aJ (aE ⟨gs,0,aC⟩) shut.length cs] w λe w' =>e=aM (aH aF ((N.fV l op shut at' 0:Nat):Int))/\w' =w:=by
 have Sr:(⟨op.toArray⟩:ByteArray).toList=op:=by rw[Go.ByteArray.toList_eq]
 have HS:=bE (λs:ByteArray=>sP s gs cs shut w 9 (cF hs.2 (by decide)) hs.1);have HC:=bE hc;clear hc hs;generalize dJ:N.fV l op shut at' 0=res;have rN:=bE dJ;clear dJ;generalize hn:l.length=n at*;have Hn:=bE hn;clear hn;generalize shut.length=ns at*;have i0:=wi ((at' :Int)-1);go_enter func118,ntmps118;go_wp2
 go_loop [9,10] (λdv i=>∃(k:Nat) (d:Int),k<=at' /\i=aH aF ((k:Int)-1)/\dv=aH aF d/\(k:Int)-(at' :Int)<=d/\d<=(at' :Int)-(k:Int)/\N.fV l op shut k d=res) (λ_ i=>match i with|aH _ k=>(k+1).toNat|_=>0)
 case atStart=>exact⟨at',0,bD _,rfl,rfl,by omega,by omega,aN rN⟩
 case round=>
  obtain⟨k,d,hk,rfl,rfl,hd0,u5,sY⟩:=hrel;cases k with
  |succ k=>
   obtain⟨c,GR⟩:∃c,l[k]?=aE c:=⟨_,bL (by rw[aN Hn];omega)⟩
   rw[w8 op shut d GR] at sY;obtain⟨q0,_,q2⟩:=aN HC k c GR;have HL:=bE sY;have Mh:(⟨c.name.toArray⟩:ByteArray).toList=c.name:=by rw[Go.ByteArray.toList_eq]
   have HSk:=bE (aN HS ⟨c.name.toArray⟩);clear sY GR;have e1:((k+1:Nat):Int)-1=(k:Int):=by omega
   rw[e1];rw[show((k+1:Nat):Int)=(k:Int)+1 by omega] at hd0 u5;clear e1;have k1:(k:Int)<(n:Int):=by omega
   have k0:(0:Int)<=(k:Int):=by omega
   have k2:=wi ((k:Int)-1);have k3:=wi ((k:Int)+1);have fin:∀d' :Int,(k:Int)-(at' :Int)<=d' ->d' <=(at' :Int)-(k:Int)->N.fV l op shut k d' =res->(∃(k' :Nat) (d2:Int),k' <=at' /\aH aF ((k:Int)-1)=aH aF ((k' :Int)-1)/\aH aF d' =aH aF d2/\(k' :Int)-(at' :Int)<=d2/\d2<=(at' :Int)-(k' :Int)/\N.fV l op shut k' d2=res)/\((k:Int)-1+1).toNat<((k:Int)+1).toNat:=λd' h1 h2 h3=>⟨⟨k,d',by omega,rfl,rfl,h1,h2,h3⟩,by omega⟩
   have Fin:=bE fin;clear fin;by_cases h4:c.kind=4
   ·rw[h4] at q0;have n4:¬c.kind≠4:=λh=>h h4
    have uP:=bE (show(if c.name==op/\d=0 then k+1 else if c.name==op then N.fV l op shut k (d-1) else if shut.any (λb=>c.name==b) then N.fV l op shut k (d+1) else N.fV l op shut k d)=res from by have:=aN HL;rwa[dL n4] at this);clear HL h4 n4;generalize hvs:(shut.any λb=>(⟨c.name.toArray⟩:ByteArray).toList==b)=vs at HSk;rw[Mh] at hvs;rw[hvs] at uP;clear hvs;have j1:aF.wrap (d+1)=d+1:=wj;have j2:aF.wrap (d-1)=d-1:=wj;clear Mh Sr;go_wp2_with fail
    refine(aN HSk).mono ?_;rintro e iF ⟨rfl,mG⟩;subst iF;cases ed:(c.name==op) with
    |true=>
     by_cases hd:d=0
     ·have S4:=bE (show k+1=res from by have:=aN uP;rwa[eJ ⟨ed,hd⟩] at this);subst hd;clear uP;go_wp2;go_ret;exact⟨Al (by rw[<-aN S4];rfl),rfl⟩
     ·have EO:(d==0)=aV:=by rw[beq_eq_false_iff_ne];exact hd
      have S4:=bE (show N.fV l op shut k (d-1)=res from by have:=aN uP;rw[dL (λh=>hd h.2),ed] at this;exact this);clear uP;go_wp2;exact aN Fin _ (by omega) (by omega) (aN S4)
    |false=>
     cases vs with
     |true=>
      have S4:=bE (show N.fV l op shut k (d+1)=res from by have:=aN uP;rw[ed,dL (λh=>by cases h.1)] at this;exact this);clear uP;go_wp2;exact aN Fin _ (by omega) (by omega) (aN S4)
     |false=>
      have S4:=bE (show N.fV l op shut k d=res from by have:=aN uP;rw[ed,dL (λh=>by cases h.1)] at this;exact this);clear uP;go_wp2;exact aN Fin _ (by omega) (by omega) (aN S4)
   ·have hn4:c.kind≠4:=h4;have Gx:((c.kind:Int)==4)=aV:=by rw[beq_eq_false_iff_ne];omega
    have uP:=bE (show N.fV l op shut k d=res from by have:=aN HL;rwa[eJ hn4] at this);clear HL h4 hn4;generalize(c.kind:Int)=ck at*;go_wp2;exact aN Fin _ (by omega) (by omega) (aN uP)
  |zero=>
   have uP:=bE (show 0=res from by rw[<-sY];rfl);clear sY;go_wp2;go_ret;exact⟨Al (by rw[<-aN uP];rfl),rfl⟩
structure iJ (w:aY) (gb:Nat) (l:List N.Cell):Prop where
 blk:tN w gb
 cells:Ax w gb l
 len:l.length<=60
variable {w w' :aY}
theorem Ax.kept {gb:Nat}{l:List N.Cell}(h:Ax w gb l)(hb:w'.heap[gb]?=w.heap[gb]?):Ax w' gb l:=λj c hj=>by
 obtain⟨h1,h2,h3⟩:=h j c hj;refine⟨?_,?_,?_⟩
 ·rw[aY.cell?_of_block (w:=w) hb];exact h1
 ·rw[aY.cell?_of_block (w:=w) hb];exact h2
 ·rw[aY.cell?_of_block (w:=w) hb];exact h3
theorem iJ.kept {gb:Nat}{l:List N.Cell}(h:iJ w gb l)(hb:w'.heap[gb]?=w.heap[gb]?):iJ w' gb l:=by
 obtain⟨cs,fr,hc⟩:=h.blk;exact⟨⟨cs,fr,hb.trans hc⟩,h.cells.kept hb,h.len⟩
theorem iJ.below {gb:Nat}{l:List N.Cell}(h:iJ w gb l)(hb:bA w.heap.size w w'):iJ w' gb l:=h.kept (hb.block gb (fW h.blk))
variable {rb:Nat}{vA vS vR:aG}{bs:List aG}{m:N.cE}
theorem iJ.mv {gb:Nat}{l:List N.Cell}(h:iJ w gb l)(hr:cH w rb vA vS vR bs m)(hm:Mv (dV rb vA vS vR) w w'):iJ w' gb l:=h.kept (hm.block gb (fW h.blk) (hr.sT h.blk))
variable {g:Nat}
theorem kE.kept {ls:List N.eE}(h:kE w g ls)(hb:w'.heap[g]?=w.heap[g]?):kE w' g ls:=⟨hb.trans h.1,h.2⟩
theorem kE.below {ls:List N.eE}(h:kE w g ls)(hb:bA w.heap.size w w'):kE w' g ls:=h.kept (hb.block g (cC h.1))
theorem kE.mv {ls:List N.eE}(h:kE w g ls)(hr:cH w rb vA vS vR bs m)(hm:Mv (dV rb vA vS vR) w w'):kE w' g ls:=by
 refine h.kept (hm.block g (cC h.1) ?_);rintro(rfl|e|e|e)
 ·exact absurd (cM hr.mc h.1) (by decide)
 ·obtain⟨_,h'⟩:=cJ hr.row e;exact absurd (cM h' h.1) (by decide)
 ·obtain⟨_,h'⟩:=cZ hr.st e;exact absurd (cM h' h.1) (by decide)
 ·obtain⟨_,h'⟩:=cZ hr.rt e;exact absurd (cM h' h.1) (by decide)
variable {w2 w3:aY}
theorem dP.then (h:dP rb vA vS vR bs m w w2)(hb:bA w2.heap.size w2 w3):dP rb vA vS vR bs m w w3:=by
 obtain⟨Wl,Nw,Vf,g1,g2,g3⟩:=h;exact⟨Wl,Nw,Vf,g1.below hb,g2.trans g3 (Mv.dS hb _),g3⟩
theorem jH (w:aY)(ls:List N.eE)(cs:Array aG)(Q6:cs=(ls.map λl=>aI ⟨l.toArray⟩).toArray)(hl:ls.length<=40):kE (w.alloc (aU cs 9)) w.heap.size ls:=⟨by rw[<-Q6];exact heap_alloc_new w _,hl⟩
def kQ (w:aY) (rb:Nat) (vA vS vR:aG) (bs:List aG) (m:N.cE) (gb cb:Nat) (l:List N.Cell) (at' :Nat) (name:N.eE):Prop:=
 bH aQ 99 #[aK (aE ⟨rb,0,aC⟩),aJ (aE ⟨gb,0,aC⟩) l.length cb,aH aF at'] w λe w' =>e=aM (bC #[aH aF (((N.ways m l at' name).2.1:Nat):Int),aH aF (N.ways m l at' name).2.2])/\dP rb vA vS vR bs (N.ways m l at' name).1 w w'
theorem ZV (W:aY)(gb cb:Nat)(l:List N.Cell)(at' :Nat)(op:N.eE)(shut want:List N.eE)(A1 A2:Array aG)(h1:A1=(shut.map λl=>aI ⟨l.toArray⟩).toArray)(h2:A2=(want.map λl=>aI ⟨l.toArray⟩).toArray)(hs:shut.length<=40)(hw:want.length<=40)(c1 c2:Nat)(hB:iJ W gb l)(eQ:at' < l.length):
 bH aQ 117 #[aJ (aE ⟨gb,0,aC⟩) l.length cb,aH aF at',aI ⟨op.toArray⟩,aJ (aE ⟨W.heap.size,0,aC⟩) shut.length c1,aJ (aE ⟨W.heap.size+1,0,aC⟩) want.length c2] ((W.alloc (aU A1 9)).alloc (aU A2 9)) λe w' =>e=aM (aH aF ((N.ahead l at' op shut want:Nat):Int))/\w' =((W.alloc (aU A1 9)).alloc (aU A2 9)):=by
 have eD:bA W.heap.size W ((W.alloc (aU A1 9)).alloc (aU A2 9)):=((bF _ _).alloc (bD _) _).alloc (by simp) _;have t1:kE ((W.alloc (aU A1 9)).alloc (aU A2 9)) W.heap.size shut:=(jH W shut A1 h1 hs).below ((bF _ _).alloc (bD _) _);have t2:kE ((W.alloc (aU A1 9)).alloc (aU A2 9)) (W.heap.size+1) want:=by
  have h3:=jH (W.alloc (aU A1 9)) want A2 h2 hw;have h4:(W.alloc (aU A1 9)).heap.size=W.heap.size+1:=by simp
  rw[h4] at h3;exact h3
 exact Gd _ gb cb W.heap.size c1 (W.heap.size+1) c2 l at' op shut want hB.len eQ (hB.below eD).cells t1 t2
theorem gy (W:aY)(gb cb gs:Nat)(l:List N.Cell)(at' :Nat)(op:N.eE)(shut want:List N.eE)(A2:Array aG)(h2:A2=(want.map λl=>aI ⟨l.toArray⟩).toArray)(hw:want.length<=40)(c1 c2:Nat)(hB:iJ W gb l)(hT:kE W gs shut)(eQ:at' < l.length):
 bH aQ 117 #[aJ (aE ⟨gb,0,aC⟩) l.length cb,aH aF at',aI ⟨op.toArray⟩,aJ (aE ⟨gs,0,aC⟩) shut.length c1,aJ (aE ⟨W.heap.size,0,aC⟩) want.length c2] (W.alloc (aU A2 9)) λe w' =>e=aM (aH aF ((N.ahead l at' op shut want:Nat):Int))/\w' =(W.alloc (aU A2 9)):=by
 have eD:bA W.heap.size W (W.alloc (aU A2 9)):=(bF _ _).alloc (bD _) _;exact Gd _ gb cb gs c1 W.heap.size c2 l at' op shut want hB.len eQ (hB.below eD).cells (hT.below eD) (jH W want A2 h2 hw)
theorem U6 (w:aY)(rb:Nat)(vA vS vR:aG)(bs:List aG)(m:N.cE)(gb cb:Nat)(l:List N.Cell)(at' :Nat)(c:N.Cell)(h:cH w rb vA vS vR bs m)(hB:iJ w gb l)(kD:l[at']?=aE c)(eO:c.name=[101,108,115,101]):kQ w rb vA vS vR bs m gb cb l at' [101,108,115,101]:=by
 have eQ:at' < l.length:=(bI.1 kD).1;have hlen:=hB.len;obtain⟨_,_,q2⟩:=hB.cells at' c kD;rw[eO] at q2;have q2:w.cell? ⟨gb,at' *3+2,aC⟩=aE (aI ⟨#[101,108,115,101]⟩):=q2;have Hf:=fW hB.blk;have HR:=bE h;have HB:=bE hB;have lT:=eQ;have MQ:=bE lT;unfold kQ;have hN:N.ways m l at' [101,108,115,101]=(m,N.ahead l at' N.mM [N.iQ] [N.iQ],0):=rfl;rw[hN];clear hN;have hj:∀W,iJ W gb l->kE W w.heap.size N.ends->bH aQ 117 #[aJ (aE ⟨gb,0,aC⟩) l.length cb,aH aF at',aI ⟨#[105,102]⟩,aJ (aE ⟨W.heap.size,0,aC⟩) 1 1,aJ (aE ⟨W.heap.size+1,0,aC⟩) 1 1] ((W.alloc (aU #[aI ⟨#[116,104,101,110]⟩] 9)).alloc (aU #[aI ⟨#[116,104,101,110]⟩] 9)) λe w' =>e=aM (aH aF ((N.ahead l at' N.mM [N.iQ] [N.iQ]:Nat):Int))/\w' =((W.alloc (aU #[aI ⟨#[116,104,101,110]⟩] 9)).alloc (aU #[aI ⟨#[116,104,101,110]⟩] 9)):=λW h1 h2=>ZV W gb cb l at' N.mM [N.iQ] [N.iQ] _ _ rfl rfl (by decide) (by decide) 1 1 h1 eQ
 generalize N.ahead l at' N.mM [N.iQ] [N.iQ]=jj at*;have HJ:=bE hj;clear hj;have NA:=bE (hB.below (w' :=(w.alloc (aU #[aI ⟨#[117,110,116,105,108]⟩,aI ⟨#[97,103,97,105,110]⟩,aI ⟨#[114,101,112,101,97,116]⟩] 9))) ((bF _ _).alloc (bD _) _));have RZ:=bE (jH w N.ends #[aI ⟨#[117,110,116,105,108]⟩,aI ⟨#[97,103,97,105,110]⟩,aI ⟨#[114,101,112,101,97,116]⟩] rfl (by decide));have hj0:=aN HJ (w.alloc (aU #[aI ⟨#[117,110,116,105,108]⟩,aI ⟨#[97,103,97,105,110]⟩,aI ⟨#[114,101,112,101,97,116]⟩] 9)) (aN NA) (aN RZ);have hs0:(w.alloc (aU #[aI ⟨#[117,110,116,105,108]⟩,aI ⟨#[97,103,97,105,110]⟩,aI ⟨#[114,101,112,101,97,116]⟩] 9)).heap.size=w.heap.size+1:=by simp
 rw[hs0] at hj0;have HJ0:=bE hj0;clear hj0 hs0;clear h hB kD eO lT;generalize hn:l.length=n at*;have Hn:=bE hn;have k1:(at' :Int)<(n:Int):=by omega
 have k0:(0:Int)<=(at' :Int):=by omega
 have k2:=wi ((at' :Int)+1);clear hn eQ;go_enter func99,ntmps99;go_wp2_with fail
 refine(aN HJ0).mono ?_;rintro e o8 ⟨rfl,mG⟩;subst o8;go_wp2;go_ret2;exact⟨rfl,dP.stay (aN HR) ((((bF _ _).alloc (by simp <;> omega) _).alloc (by simp <;> omega) _).alloc (by simp <;> omega) _)⟩
theorem BW (w:aY)(rb:Nat)(vA vS vR:aG)(bs:List aG)(m:N.cE)(gb cb:Nat)(l:List N.Cell)(at' :Nat)(c:N.Cell)(h:cH w rb vA vS vR bs m)(hB:iJ w gb l)(kD:l[at']?=aE c)(eO:c.name=[116,104,101,110]):kQ w rb vA vS vR bs m gb cb l at' [116,104,101,110]:=by
 have eQ:at' < l.length:=(bI.1 kD).1;have hlen:=hB.len;obtain⟨_,_,q2⟩:=hB.cells at' c kD;rw[eO] at q2;have q2:w.cell? ⟨gb,at' *3+2,aC⟩=aE (aI ⟨#[116,104,101,110]⟩):=q2;have Hf:=fW hB.blk;have HR:=bE h;have HB:=bE hB;have lT:=eQ;have MQ:=bE lT;unfold kQ;have hN:N.ways m l at' [116,104,101,110]=(m,at' +1,0):=rfl;rw[hN];clear h hB kD eO lT;generalize hn:l.length=n at*;have Hn:=bE hn;have k1:(at' :Int)<(n:Int):=by omega
 have k0:(0:Int)<=(at' :Int):=by omega
 have k2:=wi ((at' :Int)+1);clear hn eQ;go_enter func99,ntmps99;go_wp2;go_ret2;exact⟨rfl,dP.stay (aN HR) ((bF _ _).alloc (bD _) _)⟩
theorem I8 (w:aY)(rb:Nat)(vA vS vR:aG)(bs:List aG)(m:N.cE)(gb cb:Nat)(l:List N.Cell)(at' :Nat)(c:N.Cell)(h:cH w rb vA vS vR bs m)(hB:iJ w gb l)(kD:l[at']?=aE c)(eO:c.name=[98,101,103,105,110]):kQ w rb vA vS vR bs m gb cb l at' [98,101,103,105,110]:=by
 have eQ:at' < l.length:=(bI.1 kD).1;have hlen:=hB.len;obtain⟨_,_,q2⟩:=hB.cells at' c kD;rw[eO] at q2;have q2:w.cell? ⟨gb,at' *3+2,aC⟩=aE (aI ⟨#[98,101,103,105,110]⟩):=q2;have Hf:=fW hB.blk;have HR:=bE h;have HB:=bE hB;have lT:=eQ;have MQ:=bE lT;unfold kQ;have hN:N.ways m l at' [98,101,103,105,110]=(m,at' +1,0):=rfl;rw[hN];clear h hB kD eO lT;generalize hn:l.length=n at*;have Hn:=bE hn;have k1:(at' :Int)<(n:Int):=by omega
 have k0:(0:Int)<=(at' :Int):=by omega
 have k2:=wi ((at' :Int)+1);clear hn eQ;go_enter func99,ntmps99;go_wp2;go_ret2;exact⟨rfl,dP.stay (aN HR) ((bF _ _).alloc (bD _) _)⟩
theorem H8 (w:aY)(rb:Nat)(vA vS vR:aG)(bs:List aG)(m:N.cE)(gb cb:Nat)(l:List N.Cell)(at' :Nat)(c:N.Cell)(h:cH w rb vA vS vR bs m)(hB:iJ w gb l)(kD:l[at']?=aE c)(eO:c.name=[97,103,97,105,110]):kQ w rb vA vS vR bs m gb cb l at' [97,103,97,105,110]:=by
 have eQ:at' < l.length:=(bI.1 kD).1;have hlen:=hB.len;obtain⟨_,_,q2⟩:=hB.cells at' c kD;rw[eO] at q2;have q2:w.cell? ⟨gb,at' *3+2,aC⟩=aE (aI ⟨#[97,103,97,105,110]⟩):=q2;have Hf:=fW hB.blk;have HR:=bE h;have HB:=bE hB;have lT:=eQ;have MQ:=bE lT;unfold kQ;have hN:N.ways m l at' [97,103,97,105,110]=(m,N.fV l N.dT N.ends at' 0,0):=rfl;rw[hN];clear hN;have hj:∀W,iJ W gb l->kE W w.heap.size N.ends->bH aQ 118 #[aJ (aE ⟨gb,0,aC⟩) l.length cb,aH aF at',aI ⟨#[98,101,103,105,110]⟩,aJ (aE ⟨w.heap.size,0,aC⟩) 3 3] W λe w' =>e=aM (aH aF ((N.fV l N.dT N.ends at' 0:Nat):Int))/\w' =W:=λW h1 h2=>Dz W gb cb w.heap.size 3 l at' N.dT N.ends h1.len eQ h1.cells h2
 generalize N.fV l N.dT N.ends at' 0=jj at*;have HJ:=bE hj;clear hj;have NA:=bE (hB.below (w' :=(w.alloc (aU #[aI ⟨#[117,110,116,105,108]⟩,aI ⟨#[97,103,97,105,110]⟩,aI ⟨#[114,101,112,101,97,116]⟩] 9))) ((bF _ _).alloc (bD _) _));have RZ:=bE (jH w N.ends #[aI ⟨#[117,110,116,105,108]⟩,aI ⟨#[97,103,97,105,110]⟩,aI ⟨#[114,101,112,101,97,116]⟩] rfl (by decide));clear h hB kD eO lT;generalize hn:l.length=n at*;have Hn:=bE hn;have k1:(at' :Int)<(n:Int):=by omega
 have k0:(0:Int)<=(at' :Int):=by omega
 have k2:=wi ((at' :Int)+1);clear hn eQ;go_enter func99,ntmps99;go_wp2_with fail
 refine(aN HJ _ (aN NA) (aN RZ)).mono ?_;rintro e o8 ⟨rfl,mG⟩;subst o8;go_wp2;go_ret2;exact⟨rfl,dP.stay (aN HR) ((bF _ _).alloc (by simp <;> omega) _)⟩
theorem Xf (w:aY)(rb:Nat)(vA vS vR:aG)(bs:List aG)(m:N.cE)(gb cb:Nat)(l:List N.Cell)(at' :Nat)(c:N.Cell)(h:cH w rb vA vS vR bs m)(hB:iJ w gb l)(kD:l[at']?=aE c)(eO:c.name=[114,101,112,101,97,116]):kQ w rb vA vS vR bs m gb cb l at' [114,101,112,101,97,116]:=by
 have eQ:at' < l.length:=(bI.1 kD).1;have hlen:=hB.len;obtain⟨_,_,q2⟩:=hB.cells at' c kD;rw[eO] at q2;have q2:w.cell? ⟨gb,at' *3+2,aC⟩=aE (aI ⟨#[114,101,112,101,97,116]⟩):=q2;have Hf:=fW hB.blk;have HR:=bE h;have HB:=bE hB;have lT:=eQ;have MQ:=bE lT;unfold kQ;have hN:N.ways m l at' [114,101,112,101,97,116]=(m,N.fV l N.dT N.ends at' 0,0):=rfl;rw[hN];clear hN;have hj:∀W,iJ W gb l->kE W w.heap.size N.ends->bH aQ 118 #[aJ (aE ⟨gb,0,aC⟩) l.length cb,aH aF at',aI ⟨#[98,101,103,105,110]⟩,aJ (aE ⟨w.heap.size,0,aC⟩) 3 3] W λe w' =>e=aM (aH aF ((N.fV l N.dT N.ends at' 0:Nat):Int))/\w' =W:=λW h1 h2=>Dz W gb cb w.heap.size 3 l at' N.dT N.ends h1.len eQ h1.cells h2
 generalize N.fV l N.dT N.ends at' 0=jj at*;have HJ:=bE hj;clear hj;have NA:=bE (hB.below (w' :=(w.alloc (aU #[aI ⟨#[117,110,116,105,108]⟩,aI ⟨#[97,103,97,105,110]⟩,aI ⟨#[114,101,112,101,97,116]⟩] 9))) ((bF _ _).alloc (bD _) _));have RZ:=bE (jH w N.ends #[aI ⟨#[117,110,116,105,108]⟩,aI ⟨#[97,103,97,105,110]⟩,aI ⟨#[114,101,112,101,97,116]⟩] rfl (by decide));clear h hB kD eO lT;generalize hn:l.length=n at*;have Hn:=bE hn;have k1:(at' :Int)<(n:Int):=by omega
 have k0:(0:Int)<=(at' :Int):=by omega
 have k2:=wi ((at' :Int)+1);clear hn eQ;go_enter func99,ntmps99;go_wp2_with fail
 refine(aN HJ _ (aN NA) (aN RZ)).mono ?_;rintro e o8 ⟨rfl,mG⟩;subst o8;go_wp2;go_ret2;exact⟨rfl,dP.stay (aN HR) ((bF _ _).alloc (by simp <;> omega) _)⟩
theorem j4 (w:aY)(rb:Nat)(vA vS vR:aG)(bs:List aG)(m:N.cE)(gb cb:Nat)(l:List N.Cell)(at' :Nat)(c:N.Cell)(h:cH w rb vA vS vR bs m)(hB:iJ w gb l)(kD:l[at']?=aE c)(eO:c.name=[105,102])(hS:m.S=[]):kQ w rb vA vS vR bs m gb cb l at' [105,102]:=by
 have eQ:at' < l.length:=(bI.1 kD).1;have hlen:=hB.len;obtain⟨_,_,q2⟩:=hB.cells at' c kD;rw[eO] at q2;have q2:w.cell? ⟨gb,at' *3+2,aC⟩=aE (aI ⟨#[105,102]⟩):=q2;have Hf:=fW hB.blk;have HR:=bE h;have HB:=bE hB;have lT:=eQ;have MQ:=bE lT;unfold kQ;have oM:N.pop m=aC:=by unfold N.pop;rw[hS];rfl
 have hN:N.ways m l at' [105,102]=(m,0,6):=by
  unfold N.ways;rw[oM];rfl
 rw[hN];have kO:bA w.heap.size w (w.alloc (aU #[aI ⟨#[117,110,116,105,108]⟩,aI ⟨#[97,103,97,105,110]⟩,aI ⟨#[114,101,112,101,97,116]⟩] 9)):=(bF _ _).alloc (bD _) _;have O7:=bE kO;have GZ:=bE (h.below kO);have uV:=hB.below kO;have uW:=jH w N.ends #[aI ⟨#[117,110,116,105,108]⟩,aI ⟨#[97,103,97,105,110]⟩,aI ⟨#[114,101,112,101,97,116]⟩] rfl (by decide);have Su:=bE uV;have Sy:=bE uW;have lO:=mR _ rb vA vS vR bs m (h.below kO);have e2:jK m=0:=by unfold jK;rw[oM]
 have e3:iK m=m:=by unfold iK;rw[oM]
 rw[e2,e3,eJ hS] at lO;have HP:=bE lO;clear lO e2 e3 hN oM hS kO uV uW;clear h hB kD eO lT;generalize hn:l.length=n at*;have Hn:=bE hn;have k1:(at' :Int)<(n:Int):=by omega
 have k0:(0:Int)<=(at' :Int):=by omega
 have k2:=wi ((at' :Int)+1);clear hn eQ;go_enter func99,ntmps99;go_wp2_with fail
 refine(aN HP).mono ?_;rintro e w2 ⟨rfl,hg⟩;have HG:=bE (dP.after (aN O7) hg);clear hg;go_wp2;go_ret2;exact⟨rfl,aN HG⟩
theorem Up (w:aY)(rb:Nat)(vA vS vR:aG)(bs:List aG)(m:N.cE)(gb cb:Nat)(l:List N.Cell)(at' :Nat)(c:N.Cell)(h:cH w rb vA vS vR bs m)(hB:iJ w gb l)(kD:l[at']?=aE c)(eO:c.name=[105,102])(S:List Int)(x:Int)(hS:m.S=S++[x])(hx:x=0):kQ w rb vA vS vR bs m gb cb l at' [105,102]:=by
 have eQ:at' < l.length:=(bI.1 kD).1;have hlen:=hB.len;obtain⟨_,_,q2⟩:=hB.cells at' c kD;rw[eO] at q2;have q2:w.cell? ⟨gb,at' *3+2,aC⟩=aE (aI ⟨#[105,102]⟩):=q2;have Hf:=fW hB.blk;have HR:=bE h;have HB:=bE hB;have lT:=eQ;have MQ:=bE lT;unfold kQ;have oM:N.pop m=aE ({m with S:=S},x):=by unfold N.pop;rw[hS];simp
 have jD:m.S≠[]:=by rw[hS];simp
 subst hx;have hN:N.ways m l at' [105,102]=({m with S:=S},N.ahead l at' N.mM [N.iQ] [N.fA,N.iQ],0):=by
  unfold N.ways;rw[oM];rfl
 rw[hN];have hj:∀W,iJ W gb l->kE W w.heap.size N.ends->bH aQ 117 #[aJ (aE ⟨gb,0,aC⟩) l.length cb,aH aF at',aI ⟨#[105,102]⟩,aJ (aE ⟨W.heap.size,0,aC⟩) 1 1,aJ (aE ⟨W.heap.size+1,0,aC⟩) 2 2] ((W.alloc (aU #[aI ⟨#[116,104,101,110]⟩] 9)).alloc (aU #[aI ⟨#[101,108,115,101]⟩,aI ⟨#[116,104,101,110]⟩] 9)) λe w' =>e=aM (aH aF ((N.ahead l at' N.mM [N.iQ] [N.fA,N.iQ]:Nat):Int))/\w' =((W.alloc (aU #[aI ⟨#[116,104,101,110]⟩] 9)).alloc (aU #[aI ⟨#[101,108,115,101]⟩,aI ⟨#[116,104,101,110]⟩] 9)):=λW h1 h2=>ZV W gb cb l at' N.mM [N.iQ] [N.fA,N.iQ] _ _ rfl rfl (by decide) (by decide) 1 2 h1 eQ
 generalize N.ahead l at' N.mM [N.iQ] [N.fA,N.iQ]=jj at*;have HJ:=bE hj;clear hj;have kO:bA w.heap.size w (w.alloc (aU #[aI ⟨#[117,110,116,105,108]⟩,aI ⟨#[97,103,97,105,110]⟩,aI ⟨#[114,101,112,101,97,116]⟩] 9)):=(bF _ _).alloc (bD _) _;have O7:=bE kO;have GZ:=bE (h.below kO);have uV:=hB.below kO;have uW:=jH w N.ends #[aI ⟨#[117,110,116,105,108]⟩,aI ⟨#[97,103,97,105,110]⟩,aI ⟨#[114,101,112,101,97,116]⟩] rfl (by decide);have Su:=bE uV;have Sy:=bE uW;have lO:=mR _ rb vA vS vR bs m (h.below kO);have e2:jK m=0:=by unfold jK;rw[oM]
 have e3:iK m={m with S:=S}:=by unfold iK;rw[oM]
 rw[e2,e3,dL jD] at lO;have HP:=bE lO;clear lO e2 e3 hN oM hS kO uV uW jD;clear h hB kD eO lT;generalize hn:l.length=n at*;have Hn:=bE hn;have k1:(at' :Int)<(n:Int):=by omega
 have k0:(0:Int)<=(at' :Int):=by omega
 have k2:=wi ((at' :Int)+1);clear hn eQ;go_enter func99,ntmps99;go_wp2_with fail
 refine(aN HP).mono ?_;rintro e w2 ⟨rfl,hg⟩;have HG:=bE (dP.after (aN O7) hg);obtain⟨Wl,Nw,Vf,_,sZ,_⟩:=hg;have NA:=bE ((aN Su).mv (aN GZ) sZ);have RZ:=bE ((aN Sy).mv (aN GZ) sZ);clear sZ;go_wp2_with fail
 refine(aN HJ _ (aN NA) (aN RZ)).mono ?_;rintro e o8 ⟨rfl,mG⟩;subst o8;go_wp2;go_ret2;exact⟨rfl,(aN HG).then (((bF _ _).alloc (by simp <;> omega) _).alloc (by simp <;> omega) _)⟩
theorem D3 (w:aY)(rb:Nat)(vA vS vR:aG)(bs:List aG)(m:N.cE)(gb cb:Nat)(l:List N.Cell)(at' :Nat)(c:N.Cell)(h:cH w rb vA vS vR bs m)(hB:iJ w gb l)(kD:l[at']?=aE c)(eO:c.name=[105,102])(S:List Int)(x:Int)(hS:m.S=S++[x])(hx:(x==0)=aV):kQ w rb vA vS vR bs m gb cb l at' [105,102]:=by
 have eQ:at' < l.length:=(bI.1 kD).1;have hlen:=hB.len;obtain⟨_,_,q2⟩:=hB.cells at' c kD;rw[eO] at q2;have q2:w.cell? ⟨gb,at' *3+2,aC⟩=aE (aI ⟨#[105,102]⟩):=q2;have Hf:=fW hB.blk;have HR:=bE h;have HB:=bE hB;have lT:=eQ;have MQ:=bE lT;unfold kQ;have oM:N.pop m=aE ({m with S:=S},x):=by unfold N.pop;rw[hS];simp
 have jD:m.S≠[]:=by rw[hS];simp
 have VE :¬x=0:=by rwa[beq_eq_false_iff_ne] at hx
 have hN:N.ways m l at' [105,102]=({m with S:=S},at' +1,0):=by
  unfold N.ways;rw[oM];exact Eq.trans (b:=if x=0 then({m with S:=S},N.ahead l at' N.mM [N.iQ] [N.fA,N.iQ],0) else({m with S:=S},at' +1,0)) rfl (dL VE)
 clear VE;rw[hN];have kO:bA w.heap.size w (w.alloc (aU #[aI ⟨#[117,110,116,105,108]⟩,aI ⟨#[97,103,97,105,110]⟩,aI ⟨#[114,101,112,101,97,116]⟩] 9)):=(bF _ _).alloc (bD _) _;have O7:=bE kO;have GZ:=bE (h.below kO);have uV:=hB.below kO;have uW:=jH w N.ends #[aI ⟨#[117,110,116,105,108]⟩,aI ⟨#[97,103,97,105,110]⟩,aI ⟨#[114,101,112,101,97,116]⟩] rfl (by decide);have Su:=bE uV;have Sy:=bE uW;have lO:=mR _ rb vA vS vR bs m (h.below kO);have e2:jK m=x:=by unfold jK;rw[oM]
 have e3:iK m={m with S:=S}:=by unfold iK;rw[oM]
 rw[e2,e3,dL jD] at lO;have HP:=bE lO;clear lO e2 e3 hN oM hS kO uV uW jD;clear h hB kD eO lT;generalize hn:l.length=n at*;have Hn:=bE hn;have k1:(at' :Int)<(n:Int):=by omega
 have k0:(0:Int)<=(at' :Int):=by omega
 have k2:=wi ((at' :Int)+1);clear hn eQ;go_enter func99,ntmps99;go_wp2_with fail
 refine(aN HP).mono ?_;rintro e w2 ⟨rfl,hg⟩;have HG:=bE (dP.after (aN O7) hg);clear hg;go_wp2;go_ret2;exact⟨rfl,aN HG⟩
theorem My (w:aY)(rb:Nat)(vA vS vR:aG)(bs:List aG)(m:N.cE)(gb cb:Nat)(l:List N.Cell)(at' :Nat)(c:N.Cell)(h:cH w rb vA vS vR bs m)(hB:iJ w gb l)(kD:l[at']?=aE c)(eO:c.name=[117,110,116,105,108])(hS:m.S=[]):kQ w rb vA vS vR bs m gb cb l at' [117,110,116,105,108]:=by
 have eQ:at' < l.length:=(bI.1 kD).1;have hlen:=hB.len;obtain⟨_,_,q2⟩:=hB.cells at' c kD;rw[eO] at q2;have q2:w.cell? ⟨gb,at' *3+2,aC⟩=aE (aI ⟨#[117,110,116,105,108]⟩):=q2;have Hf:=fW hB.blk;have HR:=bE h;have HB:=bE hB;have lT:=eQ;have MQ:=bE lT;unfold kQ;have oM:N.pop m=aC:=by unfold N.pop;rw[hS];rfl
 have hN:N.ways m l at' [117,110,116,105,108]=(m,0,6):=by
  unfold N.ways;rw[oM];rfl
 rw[hN];have kO:bA w.heap.size w (w.alloc (aU #[aI ⟨#[117,110,116,105,108]⟩,aI ⟨#[97,103,97,105,110]⟩,aI ⟨#[114,101,112,101,97,116]⟩] 9)):=(bF _ _).alloc (bD _) _;have O7:=bE kO;have GZ:=bE (h.below kO);have uV:=hB.below kO;have uW:=jH w N.ends #[aI ⟨#[117,110,116,105,108]⟩,aI ⟨#[97,103,97,105,110]⟩,aI ⟨#[114,101,112,101,97,116]⟩] rfl (by decide);have Su:=bE uV;have Sy:=bE uW;have lO:=mR _ rb vA vS vR bs m (h.below kO);have e2:jK m=0:=by unfold jK;rw[oM]
 have e3:iK m=m:=by unfold iK;rw[oM]
 rw[e2,e3,eJ hS] at lO;have HP:=bE lO;clear lO e2 e3 hN oM hS kO uV uW;clear h hB kD eO lT;generalize hn:l.length=n at*;have Hn:=bE hn;have k1:(at' :Int)<(n:Int):=by omega
 have k0:(0:Int)<=(at' :Int):=by omega
 have k2:=wi ((at' :Int)+1);clear hn eQ;go_enter func99,ntmps99;go_wp2_with fail
 refine(aN HP).mono ?_;rintro e w2 ⟨rfl,hg⟩;have HG:=bE (dP.after (aN O7) hg);clear hg;go_wp2;go_ret2;exact⟨rfl,aN HG⟩
theorem Kh (w:aY)(rb:Nat)(vA vS vR:aG)(bs:List aG)(m:N.cE)(gb cb:Nat)(l:List N.Cell)(at' :Nat)(c:N.Cell)(h:cH w rb vA vS vR bs m)(hB:iJ w gb l)(kD:l[at']?=aE c)(eO:c.name=[117,110,116,105,108])(S:List Int)(x:Int)(hS:m.S=S++[x])(hx:x=0):kQ w rb vA vS vR bs m gb cb l at' [117,110,116,105,108]:=by
 have eQ:at' < l.length:=(bI.1 kD).1;have hlen:=hB.len;obtain⟨_,_,q2⟩:=hB.cells at' c kD;rw[eO] at q2;have q2:w.cell? ⟨gb,at' *3+2,aC⟩=aE (aI ⟨#[117,110,116,105,108]⟩):=q2;have Hf:=fW hB.blk;have HR:=bE h;have HB:=bE hB;have lT:=eQ;have MQ:=bE lT;unfold kQ;have oM:N.pop m=aE ({m with S:=S},x):=by unfold N.pop;rw[hS];simp
 have jD:m.S≠[]:=by rw[hS];simp
 subst hx;have hN:N.ways m l at' [117,110,116,105,108]=({m with S:=S},N.fV l N.dT N.ends at' 0,0):=by
  unfold N.ways;rw[oM];rfl
 rw[hN];have hj:∀W,iJ W gb l->kE W w.heap.size N.ends->bH aQ 118 #[aJ (aE ⟨gb,0,aC⟩) l.length cb,aH aF at',aI ⟨#[98,101,103,105,110]⟩,aJ (aE ⟨w.heap.size,0,aC⟩) 3 3] W λe w' =>e=aM (aH aF ((N.fV l N.dT N.ends at' 0:Nat):Int))/\w' =W:=λW h1 h2=>Dz W gb cb w.heap.size 3 l at' N.dT N.ends h1.len eQ h1.cells h2
 generalize N.fV l N.dT N.ends at' 0=jj at*;have HJ:=bE hj;clear hj;have kO:bA w.heap.size w (w.alloc (aU #[aI ⟨#[117,110,116,105,108]⟩,aI ⟨#[97,103,97,105,110]⟩,aI ⟨#[114,101,112,101,97,116]⟩] 9)):=(bF _ _).alloc (bD _) _;have O7:=bE kO;have GZ:=bE (h.below kO);have uV:=hB.below kO;have uW:=jH w N.ends #[aI ⟨#[117,110,116,105,108]⟩,aI ⟨#[97,103,97,105,110]⟩,aI ⟨#[114,101,112,101,97,116]⟩] rfl (by decide);have Su:=bE uV;have Sy:=bE uW;have lO:=mR _ rb vA vS vR bs m (h.below kO);have e2:jK m=0:=by unfold jK;rw[oM]
 have e3:iK m={m with S:=S}:=by unfold iK;rw[oM]
 rw[e2,e3,dL jD] at lO;have HP:=bE lO;clear lO e2 e3 hN oM hS kO uV uW jD;clear h hB kD eO lT;generalize hn:l.length=n at*;have Hn:=bE hn;have k1:(at' :Int)<(n:Int):=by omega
 have k0:(0:Int)<=(at' :Int):=by omega
 have k2:=wi ((at' :Int)+1);clear hn eQ;go_enter func99,ntmps99;go_wp2_with fail
 refine(aN HP).mono ?_;rintro e w2 ⟨rfl,hg⟩;have HG:=bE (dP.after (aN O7) hg);obtain⟨Wl,Nw,Vf,_,sZ,_⟩:=hg;have NA:=bE ((aN Su).mv (aN GZ) sZ);have RZ:=bE ((aN Sy).mv (aN GZ) sZ);clear sZ;go_wp2_with fail
 refine(aN HJ _ (aN NA) (aN RZ)).mono ?_;rintro e o8 ⟨rfl,mG⟩;subst o8;go_wp2;go_ret2;exact⟨rfl,(aN HG).then (bF _ _)⟩
theorem Rl (w:aY)(rb:Nat)(vA vS vR:aG)(bs:List aG)(m:N.cE)(gb cb:Nat)(l:List N.Cell)(at' :Nat)(c:N.Cell)(h:cH w rb vA vS vR bs m)(hB:iJ w gb l)(kD:l[at']?=aE c)(eO:c.name=[117,110,116,105,108])(S:List Int)(x:Int)(hS:m.S=S++[x])(hx:(x==0)=aV):kQ w rb vA vS vR bs m gb cb l at' [117,110,116,105,108]:=by
 have eQ:at' < l.length:=(bI.1 kD).1;have hlen:=hB.len;obtain⟨_,_,q2⟩:=hB.cells at' c kD;rw[eO] at q2;have q2:w.cell? ⟨gb,at' *3+2,aC⟩=aE (aI ⟨#[117,110,116,105,108]⟩):=q2;have Hf:=fW hB.blk;have HR:=bE h;have HB:=bE hB;have lT:=eQ;have MQ:=bE lT;unfold kQ;have oM:N.pop m=aE ({m with S:=S},x):=by unfold N.pop;rw[hS];simp
 have jD:m.S≠[]:=by rw[hS];simp
 have VE :¬x=0:=by rwa[beq_eq_false_iff_ne] at hx
 have hN:N.ways m l at' [117,110,116,105,108]=({m with S:=S},at' +1,0):=by
  unfold N.ways;rw[oM];exact Eq.trans (b:=if x=0 then({m with S:=S},N.fV l N.dT N.ends at' 0,0) else({m with S:=S},at' +1,0)) rfl (dL VE)
 clear VE;rw[hN];have kO:bA w.heap.size w (w.alloc (aU #[aI ⟨#[117,110,116,105,108]⟩,aI ⟨#[97,103,97,105,110]⟩,aI ⟨#[114,101,112,101,97,116]⟩] 9)):=(bF _ _).alloc (bD _) _;have O7:=bE kO;have GZ:=bE (h.below kO);have uV:=hB.below kO;have uW:=jH w N.ends #[aI ⟨#[117,110,116,105,108]⟩,aI ⟨#[97,103,97,105,110]⟩,aI ⟨#[114,101,112,101,97,116]⟩] rfl (by decide);have Su:=bE uV;have Sy:=bE uW;have lO:=mR _ rb vA vS vR bs m (h.below kO);have e2:jK m=x:=by unfold jK;rw[oM]
 have e3:iK m={m with S:=S}:=by unfold iK;rw[oM]
 rw[e2,e3,dL jD] at lO;have HP:=bE lO;clear lO e2 e3 hN oM hS kO uV uW jD;clear h hB kD eO lT;generalize hn:l.length=n at*;have Hn:=bE hn;have k1:(at' :Int)<(n:Int):=by omega
 have k0:(0:Int)<=(at' :Int):=by omega
 have k2:=wi ((at' :Int)+1);clear hn eQ;go_enter func99,ntmps99;go_wp2_with fail
 refine(aN HP).mono ?_;rintro e w2 ⟨rfl,hg⟩;have HG:=bE (dP.after (aN O7) hg);clear hg;go_wp2;go_ret2;exact⟨rfl,aN HG⟩
theorem Ms (w:aY)(rb:Nat)(vA vS vR:aG)(bs:List aG)(m:N.cE)(gb cb:Nat)(l:List N.Cell)(at' :Nat)(c:N.Cell)(h:cH w rb vA vS vR bs m)(hB:iJ w gb l)(kD:l[at']?=aE c)(eO:c.name=[119,104,105,108,101])(hS:m.S=[]):kQ w rb vA vS vR bs m gb cb l at' [119,104,105,108,101]:=by
 have eQ:at' < l.length:=(bI.1 kD).1;have hlen:=hB.len;obtain⟨_,_,q2⟩:=hB.cells at' c kD;rw[eO] at q2;have q2:w.cell? ⟨gb,at' *3+2,aC⟩=aE (aI ⟨#[119,104,105,108,101]⟩):=q2;have Hf:=fW hB.blk;have HR:=bE h;have HB:=bE hB;have lT:=eQ;have MQ:=bE lT;unfold kQ;have oM:N.pop m=aC:=by unfold N.pop;rw[hS];rfl
 have hN:N.ways m l at' [119,104,105,108,101]=(m,0,6):=by
  unfold N.ways;rw[oM];rfl
 rw[hN];have kO:bA w.heap.size w (w.alloc (aU #[aI ⟨#[117,110,116,105,108]⟩,aI ⟨#[97,103,97,105,110]⟩,aI ⟨#[114,101,112,101,97,116]⟩] 9)):=(bF _ _).alloc (bD _) _;have O7:=bE kO;have GZ:=bE (h.below kO);have uV:=hB.below kO;have uW:=jH w N.ends #[aI ⟨#[117,110,116,105,108]⟩,aI ⟨#[97,103,97,105,110]⟩,aI ⟨#[114,101,112,101,97,116]⟩] rfl (by decide);have Su:=bE uV;have Sy:=bE uW;have lO:=mR _ rb vA vS vR bs m (h.below kO);have e2:jK m=0:=by unfold jK;rw[oM]
 have e3:iK m=m:=by unfold iK;rw[oM]
 rw[e2,e3,eJ hS] at lO;have HP:=bE lO;clear lO e2 e3 hN oM hS kO uV uW;clear h hB kD eO lT;generalize hn:l.length=n at*;have Hn:=bE hn;have k1:(at' :Int)<(n:Int):=by omega
 have k0:(0:Int)<=(at' :Int):=by omega
 have k2:=wi ((at' :Int)+1);clear hn eQ;go_enter func99,ntmps99;go_wp2_with fail
 refine(aN HP).mono ?_;rintro e w2 ⟨rfl,hg⟩;have HG:=bE (dP.after (aN O7) hg);clear hg;go_wp2;go_ret2;exact⟨rfl,aN HG⟩
theorem Kk (w:aY)(rb:Nat)(vA vS vR:aG)(bs:List aG)(m:N.cE)(gb cb:Nat)(l:List N.Cell)(at' :Nat)(c:N.Cell)(h:cH w rb vA vS vR bs m)(hB:iJ w gb l)(kD:l[at']?=aE c)(eO:c.name=[119,104,105,108,101])(S:List Int)(x:Int)(hS:m.S=S++[x])(hx:x=0):kQ w rb vA vS vR bs m gb cb l at' [119,104,105,108,101]:=by
 have eQ:at' < l.length:=(bI.1 kD).1;have hlen:=hB.len;obtain⟨_,_,q2⟩:=hB.cells at' c kD;rw[eO] at q2;have q2:w.cell? ⟨gb,at' *3+2,aC⟩=aE (aI ⟨#[119,104,105,108,101]⟩):=q2;have Hf:=fW hB.blk;have HR:=bE h;have HB:=bE hB;have lT:=eQ;have MQ:=bE lT;unfold kQ;have oM:N.pop m=aE ({m with S:=S},x):=by unfold N.pop;rw[hS];simp
 have jD:m.S≠[]:=by rw[hS];simp
 subst hx;have hN:N.ways m l at' [119,104,105,108,101]=({m with S:=S},N.ahead l at' N.dT N.ends [N.gB],0):=by
  unfold N.ways;rw[oM];rfl
 rw[hN];have hj:∀W,iJ W gb l->kE W w.heap.size N.ends->bH aQ 117 #[aJ (aE ⟨gb,0,aC⟩) l.length cb,aH aF at',aI ⟨#[98,101,103,105,110]⟩,aJ (aE ⟨w.heap.size,0,aC⟩) 3 3,aJ (aE ⟨W.heap.size,0,aC⟩) 1 1] (W.alloc (aU #[aI ⟨#[114,101,112,101,97,116]⟩] 9)) λe w' =>e=aM (aH aF ((N.ahead l at' N.dT N.ends [N.gB]:Nat):Int))/\w' =(W.alloc (aU #[aI ⟨#[114,101,112,101,97,116]⟩] 9)):=λW h1 h2=>gy W gb cb w.heap.size l at' N.dT N.ends [N.gB] _ rfl (by decide) 3 1 h1 h2 eQ
 generalize N.ahead l at' N.dT N.ends [N.gB]=jj at*;have HJ:=bE hj;clear hj;have kO:bA w.heap.size w (w.alloc (aU #[aI ⟨#[117,110,116,105,108]⟩,aI ⟨#[97,103,97,105,110]⟩,aI ⟨#[114,101,112,101,97,116]⟩] 9)):=(bF _ _).alloc (bD _) _;have O7:=bE kO;have GZ:=bE (h.below kO);have uV:=hB.below kO;have uW:=jH w N.ends #[aI ⟨#[117,110,116,105,108]⟩,aI ⟨#[97,103,97,105,110]⟩,aI ⟨#[114,101,112,101,97,116]⟩] rfl (by decide);have Su:=bE uV;have Sy:=bE uW;have lO:=mR _ rb vA vS vR bs m (h.below kO);have e2:jK m=0:=by unfold jK;rw[oM]
 have e3:iK m={m with S:=S}:=by unfold iK;rw[oM]
 rw[e2,e3,dL jD] at lO;have HP:=bE lO;clear lO e2 e3 hN oM hS kO uV uW jD;clear h hB kD eO lT;generalize hn:l.length=n at*;have Hn:=bE hn;have k1:(at' :Int)<(n:Int):=by omega
 have k0:(0:Int)<=(at' :Int):=by omega
 have k2:=wi ((at' :Int)+1);clear hn eQ;go_enter func99,ntmps99;go_wp2_with fail
 refine(aN HP).mono ?_;rintro e w2 ⟨rfl,hg⟩;have HG:=bE (dP.after (aN O7) hg);obtain⟨Wl,Nw,Vf,_,sZ,_⟩:=hg;have NA:=bE ((aN Su).mv (aN GZ) sZ);have RZ:=bE ((aN Sy).mv (aN GZ) sZ);clear sZ;go_wp2_with fail
 refine(aN HJ _ (aN NA) (aN RZ)).mono ?_;rintro e o8 ⟨rfl,mG⟩;subst o8;go_wp2;go_ret2;exact⟨rfl,(aN HG).then ((bF _ _).alloc (by simp <;> omega) _)⟩
theorem Qk (w:aY)(rb:Nat)(vA vS vR:aG)(bs:List aG)(m:N.cE)(gb cb:Nat)(l:List N.Cell)(at' :Nat)(c:N.Cell)(h:cH w rb vA vS vR bs m)(hB:iJ w gb l)(kD:l[at']?=aE c)(eO:c.name=[119,104,105,108,101])(S:List Int)(x:Int)(hS:m.S=S++[x])(hx:(x==0)=aV):kQ w rb vA vS vR bs m gb cb l at' [119,104,105,108,101]:=by
 have eQ:at' < l.length:=(bI.1 kD).1;have hlen:=hB.len;obtain⟨_,_,q2⟩:=hB.cells at' c kD;rw[eO] at q2;have q2:w.cell? ⟨gb,at' *3+2,aC⟩=aE (aI ⟨#[119,104,105,108,101]⟩):=q2;have Hf:=fW hB.blk;have HR:=bE h;have HB:=bE hB;have lT:=eQ;have MQ:=bE lT;unfold kQ;have oM:N.pop m=aE ({m with S:=S},x):=by unfold N.pop;rw[hS];simp
 have jD:m.S≠[]:=by rw[hS];simp
 have VE :¬x=0:=by rwa[beq_eq_false_iff_ne] at hx
 have hN:N.ways m l at' [119,104,105,108,101]=({m with S:=S},at' +1,0):=by
  unfold N.ways;rw[oM];exact Eq.trans (b:=if x=0 then({m with S:=S},N.ahead l at' N.dT N.ends [N.gB],0) else({m with S:=S},at' +1,0)) rfl (dL VE)
 clear VE;rw[hN];have kO:bA w.heap.size w (w.alloc (aU #[aI ⟨#[117,110,116,105,108]⟩,aI ⟨#[97,103,97,105,110]⟩,aI ⟨#[114,101,112,101,97,116]⟩] 9)):=(bF _ _).alloc (bD _) _;have O7:=bE kO;have GZ:=bE (h.below kO);have uV:=hB.below kO;have uW:=jH w N.ends #[aI ⟨#[117,110,116,105,108]⟩,aI ⟨#[97,103,97,105,110]⟩,aI ⟨#[114,101,112,101,97,116]⟩] rfl (by decide);have Su:=bE uV;have Sy:=bE uW;have lO:=mR _ rb vA vS vR bs m (h.below kO);have e2:jK m=x:=by unfold jK;rw[oM]
 have e3:iK m={m with S:=S}:=by unfold iK;rw[oM]
 rw[e2,e3,dL jD] at lO;have HP:=bE lO;clear lO e2 e3 hN oM hS kO uV uW jD;clear h hB kD eO lT;generalize hn:l.length=n at*;have Hn:=bE hn;have k1:(at' :Int)<(n:Int):=by omega
 have k0:(0:Int)<=(at' :Int):=by omega
 have k2:=wi ((at' :Int)+1);clear hn eQ;go_enter func99,ntmps99;go_wp2_with fail
 refine(aN HP).mono ?_;rintro e w2 ⟨rfl,hg⟩;have HG:=bE (dP.after (aN O7) hg);clear hg;go_wp2;go_ret2;exact⟨rfl,aN HG⟩
def D7:List N.eE:=[N.mM,N.fA,N.iQ,N.dT,N.jQ,N.jW,N.eN,N.gB]
theorem IK (w:aY)(rb:Nat)(vA vS vR:aG)(bs:List aG)(m:N.cE)(gb cb:Nat)(l:List N.Cell)(at' :Nat)(c:N.Cell)(h:cH w rb vA vS vR bs m)(hB:iJ w gb l)(kD:l[at']?=aE c)(eO:c.name∈D7):kQ w rb vA vS vR bs m gb cb l at' c.name:=by
 simp only[D7,List.mem_cons,dR,or_false] at eO;have hs:m.S=[]\/∃S x,m.S=S++[x]:=by
  rcases List.eq_nil_or_concat m.S with h0|⟨S,x,hS⟩
  ·exact .inl h0
  ·exact .inr ⟨S,x,by simpa using hS⟩
 have hz:∀x:Int,x=0\/(x==0)=aV:=λx=>by
  by_cases hx:x=0
  ·exact .inl hx
  ·exact .inr (by rw[beq_eq_false_iff_ne];exact hx)
 rcases eO with e|e|e|e|e|e|e|e
 ·rw[e];rcases hs with h0|⟨S,x,hS⟩
  ·exact j4 w rb vA vS vR bs m gb cb l at' c h hB kD e h0
  ·rcases hz x with hx|hx
   ·exact Up w rb vA vS vR bs m gb cb l at' c h hB kD e S x hS hx
   ·exact D3 w rb vA vS vR bs m gb cb l at' c h hB kD e S x hS hx
 ·rw[e];exact U6 w rb vA vS vR bs m gb cb l at' c h hB kD e
 ·rw[e];exact BW w rb vA vS vR bs m gb cb l at' c h hB kD e
 ·rw[e];exact I8 w rb vA vS vR bs m gb cb l at' c h hB kD e
 ·rw[e];rcases hs with h0|⟨S,x,hS⟩
  ·exact My w rb vA vS vR bs m gb cb l at' c h hB kD e h0
  ·rcases hz x with hx|hx
   ·exact Kh w rb vA vS vR bs m gb cb l at' c h hB kD e S x hS hx
   ·exact Rl w rb vA vS vR bs m gb cb l at' c h hB kD e S x hS hx
 ·rw[e];exact H8 w rb vA vS vR bs m gb cb l at' c h hB kD e
 ·rw[e];rcases hs with h0|⟨S,x,hS⟩
  ·exact Ms w rb vA vS vR bs m gb cb l at' c h hB kD e h0
  ·rcases hz x with hx|hx
   ·exact Kk w rb vA vS vR bs m gb cb l at' c h hB kD e S x hS hx
   ·exact Qk w rb vA vS vR bs m gb cb l at' c h hB kD e S x hS hx
 ·rw[e];exact Xf w rb vA vS vR bs m gb cb l at' c h hB kD e
def pY (r:List (Int×Int)):List aG:=r.flatMap λp=>[aH aF p.1,aH aF p.2]
theorem wU (r:List (Int×Int)):(pY r).length=r.length*2:=by
 induction r with
 |nil=>rfl
 |cons p t ih=>
  simp[pY] at ih ⊢;omega
theorem pA (r:List (Int×Int))(p:Int×Int):pY (r++[p])=pY r++[aH aF p.1,aH aF p.2]:=by simp[pY]
structure fH (w:aY) (B:Nat) (vr:aG) (r:List (Int×Int)):Prop where
 row:w.ownsRow B 191 2 vr r.length (pY r)
 ri:∀p∈r,dQ p.1/\dQ p.2
def Kc (w:aY) (k:Nat):Prop:=∃cs fr,w.heap[k]?=aE (aU cs 191 fr)
variable {B:Nat}{vr:aG}{r:List (Int×Int)}
theorem fH.o6 (h:fH w B vr r)(hk:vr.ownBlock=aE k):Kc w k:=by
 obtain⟨cur,hc⟩:=cJ h.row hk;exact⟨cur,_,hc⟩
theorem fH.kept (h:fH w B vr r)(hk:∀k,vr.ownBlock=aE k->w'.heap[k]?=w.heap[k]?):fH w' B vr r:=⟨cV h.row hk,h.ri⟩
theorem fH.below (h:fH w B vr r)(hb:bA w.heap.size w w'):fH w' B vr r:=h.kept λk e=>hb.block k (mC h.row e)
theorem cH.Gu (h:cH w rb vA vS vR bs m)(hk:Kc w k):¬dV rb vA vS vR k:=by
 obtain⟨cs,fr,hc⟩:=hk;rintro(rfl|e|e|e)
 ·exact absurd (cM h.mc hc) (by decide)
 ·obtain⟨_,h'⟩:=cJ h.row e;exact absurd (cM h' hc) (by decide)
 ·obtain⟨_,h'⟩:=cZ h.st e;exact absurd (cM h' hc) (by decide)
 ·obtain⟨_,h'⟩:=cZ h.rt e;exact absurd (cM h' hc) (by decide)
theorem LI (h:Kc w k):k<w.heap.size:=by
 obtain⟨_,_,h⟩:=h;exact cC h
theorem fH.mv (h:fH w B vr r)(hr:cH w rb vA vS vR bs m)(hm:Mv (dV rb vA vS vR) w w'):fH w' B vr r:=h.kept λk e=>hm.block k (LI (h.o6 e)) (hr.Gu (h.o6 e))
theorem Aq (h:tN w k)(hk:Kc w k):False:=by
 obtain⟨_,_,h1⟩:=h;obtain⟨_,_,h2⟩:=hk;exact absurd (cM h1 h2) (by decide)
theorem fH.slice (h:fH w B vr r):∃a cap,vr=aJ a r.length cap/\r.length<=cap:=by
 rcases h.row.2 with ⟨h1,h2⟩|⟨g,cap,cur,h1,_,_,h3,_⟩
 ·exact⟨aC,0,by rw[h1,h2],by omega⟩
 ·exact⟨_,_,h1,h3⟩
theorem fH.last {p:Int×Int}(h:fH w B vr (r++[p])):∃g cap,vr=aJ (aE ⟨g,0,aC⟩) (r.length+1) cap/\r.length+1<=cap/\Kc w g/\w.cell? ⟨g,r.length*2,aC⟩=aE (aH aF p.1)/\w.cell? ⟨g,r.length*2+1,aC⟩=aE (aH aF p.2)/\∀f,w.frozen? ⟨g,f,aC⟩=aV:=by
 have hl:(r++[p]).length=r.length+1:=by simp
 have fL:=h.row;rw[hl,pA] at fL;rcases fL.2 with ⟨_,h0⟩|⟨g,cap,cur,hv,_,hg,hle,_,hs,ht⟩
 ·omega
 have nQ:=wU r;have uM:∀f x,f<2->([aH aF p.1,aH aF p.2]:List aG)[f]?=aE x->w.cell? ⟨g,r.length*2+f,aC⟩=aE x:=λf x hf hx=>by
  have h1:(cur.toList.take ((r.length+1)*2))[r.length*2+f]?=aE x:=by
   rw[ht,bP (by omega),nQ,Nat.add_sub_cancel_left];exact hx
  rw[List.getElem?_take,eJ (by omega)] at h1;rw[cell_of_row w g (r.length*2+f) cur _ (0,0) hg,<-Array.getElem?_toList];exact h1
 exact⟨g,cap,hv,hle,⟨cur,_,hg⟩,uM 0 _ (by omega) rfl,uM 1 _ (by omega) rfl,λf=>bG f hg⟩
variable {cap:Nat}
theorem fH.set {p:Int×Int}{c:Int}(h:fH w B (aJ (aE ⟨g,0,aC⟩) (r.length+1) cap) (r++[p]))(hc:dQ c):
 fH (w.setCell ⟨g,r.length*2+1,aC⟩ (aH aF c)) B (aJ (aE ⟨g,0,aC⟩) (r.length+1) cap) (r++[(p.1,c)]):=by
 have hl:∀q,(r++[q]).length=r.length+1:=by simp
 have fL:=h.row;rw[hl,pA] at fL;have nQ:=wU r;rcases fL.2 with ⟨h0,_⟩|⟨g2,xO,cur,hv,eD,hg,hle,dm,hs,ht⟩
 ·cases h0
 have Vd:g2=g/\xO=cap:=by
  injection hv with a1 _ a3;injection a1 with a1;injection a1 with a1 _;exact⟨a1.symm,a3.symm⟩
 obtain⟨rfl,rfl⟩:=Vd;refine⟨?_,λq hq=>?_⟩
 ·rw[hl,pA];refine⟨by simp[nQ];omega,.inr ⟨g2,xO,_,rfl,eD,bV hg (r.length*2+1) (aH aF c),hle,dm,by simpa using hs,?_⟩⟩;rw[Array.toList_setIfInBounds,List.take_set,ht,List.set_append_right _ _ (by omega),nQ,Nat.add_sub_cancel_left];rfl
 ·rcases List.mem_append.1 hq with hq|hq
  ·exact h.ri q (List.mem_append_left _ hq)
  ·rw[dE] at hq;subst hq;exact⟨(h.ri p (by simp)).1,hc⟩
theorem fH.pop {a:Option Addr}{p:Int×Int}(h:fH w B (aJ a (r.length+1) cap) (r++[p])):fH w B (aJ a r.length cap) r:=by
 have hl:(r++[p]).length=r.length+1:=by simp
 have fL:=h.row;rw[hl,pA] at fL;have:=Gb fL r.length (Nat.le_succ _);rw[<-wU,List.take_left] at this;exact⟨this,λq hq=>h.ri q (List.mem_append_left _ hq)⟩
def vH (rb:Nat) (vA vS vR vr:aG) (bs:List aG) (m:N.cE) (w w' :aY):Prop:=
 ∃pI pU xM,cH w' rb pI pU xM bs m/\Mv (λk=>dV rb vA vS vR k\/vr.ownBlock=aE k) w w' /\dG w (dV rb vA vS vR) (dV rb pI pU xM)
theorem dP.wide (h:dP rb vA vS vR bs m w w')(vr:aG):vH rb vA vS vR vr bs m w w' :=by
 obtain⟨pI,pU,xM,h1,h2,h3⟩:=h;exact⟨pI,pU,xM,h1,h2.weaken λk hk=>.inl hk,h3⟩
def mF (w:aY) (rb:Nat) (vA vS vR:aG) (bs:List aG) (m:N.cE) (gb cb:Nat) (l:List N.Cell) (at' :Nat) (name:N.eE) (B:Nat) (vr:aG) (r:List (Int×Int)):Prop:=
 bH aQ 98 #[aK (aE ⟨rb,0,aC⟩),aJ (aE ⟨gb,0,aC⟩) l.length cb,aH aF at',vr] w λe w' =>∃NK,e=aM (bC #[aH aF (((N.rounds m l at' name r).2.1:Nat):Int),NK,aH aF (N.rounds m l at' name r).2.2.2])/\vH rb vA vS vR vr bs (N.rounds m l at' name r).1 w w' /\((N.rounds m l at' name r).2.2.2=0->fH w' B NK (N.rounds m l at' name r).2.2.1)
def ip:Obj:=aU #[aI ⟨#[108,111,111,112]⟩] 9
theorem qA (w:aY)(gb cb:Nat)(l:List N.Cell)(at' :Nat)(hB:iJ w gb l)(eQ:at' < l.length):
 bH aQ 117 #[aJ (aE ⟨gb,0,aC⟩) l.length cb,aH aF at',aI ⟨#[100,111]⟩,aJ (aE ⟨w.heap.size,0,aC⟩) 1 1,aJ (aE ⟨w.heap.size+1,0,aC⟩) 1 1] ((w.alloc (aU #[aI ⟨#[108,111,111,112]⟩] 9)).alloc (aU #[aI ⟨#[108,111,111,112]⟩] 9)) λe w' =>e=aM (aH aF ((N.ahead l at' N.iR [N.eK] [N.eK]:Nat):Int))/\w' =((w.alloc (aU #[aI ⟨#[108,111,111,112]⟩] 9)).alloc (aU #[aI ⟨#[108,111,111,112]⟩] 9)):=by
 have eD:bA w.heap.size w ((w.alloc (aU #[aI ⟨#[108,111,111,112]⟩] 9)).alloc (aU #[aI ⟨#[108,111,111,112]⟩] 9)):=((bF _ _).alloc (bD _) _).alloc (by simp) _;have t1:kE ((w.alloc (aU #[aI ⟨#[108,111,111,112]⟩] 9)).alloc (aU #[aI ⟨#[108,111,111,112]⟩] 9)) w.heap.size [N.eK]:=(jH w [N.eK] _ rfl (by decide)).below ((bF _ _).alloc (bD _) _);have t2:kE ((w.alloc (aU #[aI ⟨#[108,111,111,112]⟩] 9)).alloc (aU #[aI ⟨#[108,111,111,112]⟩] 9)) (w.heap.size+1) [N.eK]:=by
  have:=jH (w.alloc (aU #[aI ⟨#[108,111,111,112]⟩] 9)) [N.eK] #[aI ⟨#[108,111,111,112]⟩] rfl (by decide);simpa using this
 exact Gd _ gb cb w.heap.size 1 (w.heap.size+1) 1 l at' N.iR [N.eK] [N.eK] hB.len eQ (hB.below eD).cells t1 t2
theorem KX:∃i,(aQ).info? 191=aE i/\i.zero=aE (bM #[aH aF 0,aH aF 0])/\i.size=2/\i.bytes=16:=nE (by kernel_rfl)
theorem tM (w:aY)(o1 o2:Obj):bA w.heap.size w ((w.alloc o1).alloc o2):=((bF _ _).alloc (bD _) _).alloc (by simp) _
theorem zI (w:aY)(o:Obj):bA w.heap.size w (w.drew.alloc o):=(bF _ _).drew.alloc (bD _) _
variable {u:aG}
theorem cH.setR (h:cH w rb vA vS vR bs m)(hg:Kc w g):cH (w.setCell ⟨g,i,aC⟩ u) rb vA vS vR bs m:=
 h.kept (λk hk=>dA λe=>h.Gu (k:=k) (e▸hg) hk) (λk hk=>dA λe=>Aq (k:=k) hk (e▸hg))
theorem vH.grown {w4 w5 w6:aY}(h:vH rb vA vS vR vr bs m w w4)(hr:fH w4 B vr r)(hb:bA w4.heap.size w4 w5)(hg:w5.grownBy w6 vr.ownBlock):vH rb vA vS vR vr bs m w w6:=by
 obtain⟨pI,pU,xM,h1,h2,h3⟩:=h;have hs:=hb.size;have xN:∀k,k<w4.heap.size->vr.ownBlock≠aE k->w6.heap[k]?=w4.heap[k]?:=λk hk hn=>(hg.block k (by omega) (λe=>hn e.symm)).trans (hb.block k hk)
 refine⟨pI,pU,xM,h1.kept (λk hk=>xN k (h1.lt k hk) λe=>h1.Gu (hr.o6 e) hk) (λk hk=>xN k (fW hk) λe=>Aq hk (hr.o6 e)),?_,h3⟩;exact((h2.trans (dG.refl _ _) (Mv.dS hb _))).grown hg λk e=>.inl (.inr e)
theorem vH.then (h:vH rb vA vS vR vr bs m w w2)(hb:bA w2.heap.size w2 w3):vH rb vA vS vR vr bs m w w3:=by
 obtain⟨Wl,Nw,Vf,g1,g2,g3⟩:=h;exact⟨Wl,Nw,Vf,g1.below hb,g2.trans (dG.refl _ _) (Mv.dS hb _),g3⟩
theorem Tx (w:aY)(rb:Nat)(vA vS vR:aG)(bs:List aG)(m:N.cE)(gb cb:Nat)(l:List N.Cell)(at' :Nat)(c:N.Cell)(B:Nat)(vr:aG)(r0:List (Int×Int))(p:Int×Int)(h:cH w rb vA vS vR bs m)(hB:iJ w gb l)(kD:l[at']?=aE c)(eO:c.name=[108,101,97,118,101])(hr:fH w B vr (r0++[p]))(xH:r0.length<=1000):mF w rb vA vS vR bs m gb cb l at' [108,101,97,118,101] B vr (r0++[p]):=by
 have eQ:at' < l.length:=(bI.1 kD).1;have hlen:=hB.len;obtain⟨_,_,q2⟩:=hB.cells at' c kD;rw[eO] at q2;have q2:w.cell? ⟨gb,at' *3+2,aC⟩=aE (aI ⟨#[108,101,97,118,101]⟩):=q2;have Hf:=fW hB.blk;have k1:(at' :Int)<(l.length:Int):=by omega
 have k0:(0:Int)<=(at' :Int):=by omega
 have k2:=wi ((at' :Int)+1);have hA:=qA w gb cb l at' hB eQ;have eD:=tM w (aU #[aI ⟨#[108,111,111,112]⟩] 9) (aU #[aI ⟨#[108,111,111,112]⟩] 9);unfold mF;obtain⟨g,cap,rfl,lU,Nr,p0,p1,pf⟩:=hr.last;have j0:aF.wrap (((r0.length+1:Nat):Int)-1)=(r0.length:Int):=wj;have j1:(0:Int)<=(r0.length:Int):=by omega
 have j2:(r0.length:Int)<=(cap:Int):=by omega
 have j3:(r0.length:Int)<((r0.length+1:Nat):Int):=by omega
 have hN:N.rounds m l at' [108,101,97,118,101] (r0++[p])=(m,N.ahead l at' N.iR [N.eK] [N.eK],r0,0):=by
  show(m,N.ahead l at' N.iR [N.eK] [N.eK],(r0++[p]).dropLast,(0:Int))=_;rw[List.dropLast_concat]
 rw[hN];generalize N.ahead l at' N.iR [N.eK] [N.eK]=jj at*;have HA:=bE hA;have HR:=bE (dP.wide (dP.stay h eD) (aJ (aE ⟨g,0,aC⟩) (r0.length+1) cap));have HO:=bE (hr.pop.below eD);clear hA h hB kD eO hr hN eQ hlen xH lU Nr p0 p1 pf eD;generalize r0.length=k at*;generalize xI:k+1=kk at*;clear xI;generalize l.length=n at*;go_enter func98,ntmps98;go_wp2_with fail
 refine(aN HA).mono ?_;rintro e iF ⟨rfl,mG⟩;subst iF;go_wp2;go_region_held3 (λw' =>True) (first|trivial|go_keep) (fail)
 go_wp2
 go_ret3
 exact⟨_,rfl,(aN HR).then (bF _ _).drew,λ_=>(aN HO).below (bF _ _).drew⟩
theorem JJ (w:aY)(rb:Nat)(vA vS vR:aG)(bs:List aG)(m:N.cE)(gb cb:Nat)(l:List N.Cell)(at' :Nat)(c:N.Cell)(B:Nat)(vr:aG)(r0:List (Int×Int))(p:Int×Int)(h:cH w rb vA vS vR bs m)(hB:iJ w gb l)(kD:l[at']?=aE c)(eO:c.name=[105])(hr:fH w B vr (r0++[p]))(xH:r0.length<=1000):mF w rb vA vS vR bs m gb cb l at' [105] B vr (r0++[p]):=by
 have eQ:at' < l.length:=(bI.1 kD).1;have hlen:=hB.len;obtain⟨_,_,q2⟩:=hB.cells at' c kD;rw[eO] at q2;have q2:w.cell? ⟨gb,at' *3+2,aC⟩=aE (aI ⟨#[105]⟩):=q2;have Hf:=fW hB.blk;have k1:(at' :Int)<(l.length:Int):=by omega
 have k0:(0:Int)<=(at' :Int):=by omega
 have k2:=wi ((at' :Int)+1);have hA:=qA w gb cb l at' hB eQ;have eD:=tM w (aU #[aI ⟨#[108,111,111,112]⟩] 9) (aU #[aI ⟨#[108,111,111,112]⟩] 9);unfold mF;obtain⟨g,cap,rfl,lU,Nr,p0,p1,pf⟩:=hr.last;have j0:aF.wrap (((r0.length+1:Nat):Int)-1)=(r0.length:Int):=wj;have j1:(0:Int)<=(r0.length:Int):=by omega
 have j2:(r0.length:Int)<=(cap:Int):=by omega
 have j3:(r0.length:Int)<((r0.length+1:Nat):Int):=by omega
 have hN:N.rounds m l at' [105] (r0++[p])=((N.push m p.2).1,at' +1,r0++[p],(N.push m p.2).2):=by
  show((N.push m ((r0++[p]).getLast?.getD (0,0)).2).1,at' +1,r0++[p],(N.push m ((r0++[p]).getLast?.getD (0,0)).2).2)=_;rw[List.getLast?_concat];rfl
 rw[hN];generalize N.ahead l at' N.iR [N.eK] [N.eK]=jj at*;have HA:=bE hA;have hpu:=zJ ((w.alloc (aU #[aI ⟨#[108,111,111,112]⟩] 9)).alloc (aU #[aI ⟨#[108,111,111,112]⟩] 9)) rb vA vS vR bs m p.2 (hr.ri p (by simp)).2 (h.below eD);have hpu:bH aQ 59 #[aK (aE ⟨rb,0,aC⟩),aH aF p.2] ((w.alloc (aU #[aI ⟨#[108,111,111,112]⟩] 9)).alloc (aU #[aI ⟨#[108,111,111,112]⟩] 9)) λe w' =>e=aM (aH aF (N.push m p.2).2)/\dP rb vA vS vR bs (N.push m p.2).1 w w' /\fH w' B (aJ (aE ⟨g,0,aC⟩) (r0.length+1) cap) (r0++[p]):=hpu.mono λe w' hh=>⟨hh.1,dP.after eD hh.2,by
  obtain⟨_,_,_,_,pL,_⟩:=hh.2;exact(hr.below eD).mv (h.below eD) pL⟩
 have p1' :=bJ (bJ p1 (aU #[aI ⟨#[108,111,111,112]⟩] 9)) (aU #[aI ⟨#[108,111,111,112]⟩] 9);generalize N.push m p.2=pm at*;generalize p.2=px at*;have HP:=bE hpu;clear hA h hB kD eO hr hN eQ hlen xH lU Nr p0 pf eD hpu;generalize r0.length=k at*;generalize xI:k+1=kk at*;clear xI;generalize l.length=n at*;go_enter func98,ntmps98;go_wp2_with fail
 refine(aN HA).mono ?_;rintro e iF ⟨rfl,mG⟩;subst iF;go_wp2_with fail
 refine(aN HP).mono ?_;rintro e w3 ⟨rfl,R9,El⟩;have HG:=bE (bK R9 El);clear R9 El;go_wp2
 go_ret3
 exact⟨_,rfl,(aN HG).1.wide _,λ_=>(aN HG).2⟩
theorem Nf (w:aY)(rb:Nat)(vA vS vR:aG)(bs:List aG)(m:N.cE)(gb cb:Nat)(l:List N.Cell)(at' :Nat)(c:N.Cell)(B:Nat)(vr:aG)(r0:List (Int×Int))(p:Int×Int)(h:cH w rb vA vS vR bs m)(hB:iJ w gb l)(kD:l[at']?=aE c)(eO:c.name=[108,111,111,112])(hr:fH w B vr (r0++[p]))(xH:r0.length<=1000)(GR:wrap64 (p.2+1)<p.1):mF w rb vA vS vR bs m gb cb l at' [108,111,111,112] B vr (r0++[p]):=by
 have eQ:at' < l.length:=(bI.1 kD).1;have hlen:=hB.len;obtain⟨_,_,q2⟩:=hB.cells at' c kD;rw[eO] at q2;have q2:w.cell? ⟨gb,at' *3+2,aC⟩=aE (aI ⟨#[108,111,111,112]⟩):=q2;have Hf:=fW hB.blk;have k1:(at' :Int)<(l.length:Int):=by omega
 have k0:(0:Int)<=(at' :Int):=by omega
 have k2:=wi ((at' :Int)+1);have hA:=qA w gb cb l at' hB eQ;have eD:=tM w (aU #[aI ⟨#[108,111,111,112]⟩] 9) (aU #[aI ⟨#[108,111,111,112]⟩] 9);unfold mF;obtain⟨g,cap,rfl,lU,Nr,p0,p1,pf⟩:=hr.last;have j0:aF.wrap (((r0.length+1:Nat):Int)-1)=(r0.length:Int):=wj;have j1:(0:Int)<=(r0.length:Int):=by omega
 have j2:(r0.length:Int)<=(cap:Int):=by omega
 have j3:(r0.length:Int)<((r0.length+1:Nat):Int):=by omega
 have hN:N.rounds m l at' [108,111,111,112] (r0++[p])=(m,N.fV l N.iR [N.eK] at' 0,r0++[(p.1,wrap64 (p.2+1))],0):=by
  unfold N.rounds;rw[List.getLast?_concat,List.dropLast_concat];exact Eq.trans (b:=if wrap64 (p.2+1)<p.1 then(m,N.fV l N.iR [N.eK] at' 0,r0++[(p.1,wrap64 (p.2+1))],(0:Int)) else(m,at' +1,r0,0)) rfl (eJ GR)
 rw[hN];generalize N.ahead l at' N.iR [N.eK] [N.eK]=jj at*;have HA:=bE hA;have hci:dQ (wrap64 (p.2+1)):=⟨by unfold wrap64;omega,by unfold wrap64;omega⟩
 have rF:=hr.below eD;obtain⟨g',mT,Vh,_,MM,x0,x1,xf⟩:=rF.last;have Vd:g' =g:=by
  have:=eM Vh;injection this with this;injection this with this _;exact this.symm
 subst Vd;have Gr:=rF.set hci;have oK:vH rb vA vS vR (aJ (aE ⟨g',0,aC⟩) (r0.length+1) cap) bs m w (((w.alloc (aU #[aI ⟨#[108,111,111,112]⟩] 9)).alloc (aU #[aI ⟨#[108,111,111,112]⟩] 9)).setCell ⟨g',r0.length*2+1,aC⟩ (aH aF (wrap64 (p.2+1)))):=⟨vA,vS,vR,(h.below eD).setR MM,Mv.setCell (Mv.dS eD _) (.inl (.inr rfl)) _,dG.refl _ _⟩
 have y0:(((w.alloc (aU #[aI ⟨#[108,111,111,112]⟩] 9)).alloc (aU #[aI ⟨#[108,111,111,112]⟩] 9)).setCell ⟨g',r0.length*2+1,aC⟩ (aH aF (wrap64 (p.2+1)))).cell? ⟨g',r0.length*2,aC⟩=aE (aH aF p.1):=by
  obtain⟨g2,_,En,_,_,z0,_,_⟩:=Gr.last;have:=eM En;injection this with this;injection this with this _;rw[<-this] at z0;exact z0
 have y1:(((w.alloc (aU #[aI ⟨#[108,111,111,112]⟩] 9)).alloc (aU #[aI ⟨#[108,111,111,112]⟩] 9)).setCell ⟨g',r0.length*2+1,aC⟩ (aH aF (wrap64 (p.2+1)))).cell? ⟨g',r0.length*2+1,aC⟩=aE (aH aF (wrap64 (p.2+1))):=by
  obtain⟨g2,_,En,_,_,_,z1,_⟩:=Gr.last;have:=eM En;injection this with this;injection this with this _;rw[<-this] at z1;exact z1
 have hB3:iJ (((w.alloc (aU #[aI ⟨#[108,111,111,112]⟩] 9)).alloc (aU #[aI ⟨#[108,111,111,112]⟩] 9)).setCell ⟨g',r0.length*2+1,aC⟩ (aH aF (wrap64 (p.2+1)))) gb l:=(hB.below eD).kept (dA λe=>Aq (hB.below eD).blk (e▸MM));have hsz:(((w.alloc (aU #[aI ⟨#[108,111,111,112]⟩] 9)).alloc (aU #[aI ⟨#[108,111,111,112]⟩] 9)).setCell ⟨g',r0.length*2+1,aC⟩ (aH aF (wrap64 (p.2+1)))).drew.heap.size=w.heap.size+2:=by simp
 have hj:=Dz ((((w.alloc (aU #[aI ⟨#[108,111,111,112]⟩] 9)).alloc (aU #[aI ⟨#[108,111,111,112]⟩] 9)).setCell ⟨g',r0.length*2+1,aC⟩ (aH aF (wrap64 (p.2+1)))).drew.alloc (aU #[aI ⟨#[108,111,111,112]⟩] 9)) gb cb (w.heap.size+2) 1 l at' N.iR [N.eK] hB.len eQ ((hB3.below (bF _ _).drew).below ((bF _ _).alloc (bD _) _)).cells (by
  have:=jH (((w.alloc (aU #[aI ⟨#[108,111,111,112]⟩] 9)).alloc (aU #[aI ⟨#[108,111,111,112]⟩] 9)).setCell ⟨g',r0.length*2+1,aC⟩ (aH aF (wrap64 (p.2+1)))).drew [N.eK] #[aI ⟨#[108,111,111,112]⟩] rfl (by decide);rw[hsz] at this;exact this)
 generalize N.fV l N.iR [N.eK] at' 0=jb at*;have HJ:=bE hj;clear hj hsz hB3;have iw:aF.wrap (p.2+1)=wrap64 (p.2+1):=by rw[IntKind.wrap_i64,wrap64]
 have HG:=bE (bK oK Gr);clear hA h hB kD eO hr rF hN eQ hlen xH lU Nr MM p0 p1 pf eD oK Gr Vh;obtain⟨pa,pb⟩:=p;simp only at*;generalize wrap64 (pb+1)=cc at*;have ff:=xf (r0.length*2+1);clear xf;generalize r0.length=k at*;generalize xI:k+1=kk at*;clear xI;generalize l.length=n at*;go_enter func98,ntmps98;go_wp2_with fail
 refine(aN HA).mono ?_;rintro e iF ⟨rfl,mG⟩;subst iF;go_wp2;go_region_held3 (λw' =>w'.cell? ⟨g',k*2,aC⟩=aE (aH aF pa)/\w'.cell? ⟨g',k*2+1,aC⟩=aE (aH aF cc)) (first|exact⟨y0,y1⟩|go_keep) (fail)
 go_wp2_with fail
 refine(aN HJ).mono ?_;rintro e o8 ⟨rfl,mG⟩;subst o8;go_wp2
 go_ret3
 exact⟨_,rfl,(aN HG).1.then (zI _ _),λ_=>(aN HG).2.below (zI _ _)⟩
theorem Kf (w:aY)(rb:Nat)(vA vS vR:aG)(bs:List aG)(m:N.cE)(gb cb:Nat)(l:List N.Cell)(at' :Nat)(c:N.Cell)(B:Nat)(vr:aG)(r0:List (Int×Int))(p:Int×Int)(h:cH w rb vA vS vR bs m)(hB:iJ w gb l)(kD:l[at']?=aE c)(eO:c.name=[108,111,111,112])(hr:fH w B vr (r0++[p]))(xH:r0.length<=1000)(GR:¬wrap64 (p.2+1)<p.1):mF w rb vA vS vR bs m gb cb l at' [108,111,111,112] B vr (r0++[p]):=by
 have eQ:at' < l.length:=(bI.1 kD).1;have hlen:=hB.len;obtain⟨_,_,q2⟩:=hB.cells at' c kD;rw[eO] at q2;have q2:w.cell? ⟨gb,at' *3+2,aC⟩=aE (aI ⟨#[108,111,111,112]⟩):=q2;have Hf:=fW hB.blk;have k1:(at' :Int)<(l.length:Int):=by omega
 have k0:(0:Int)<=(at' :Int):=by omega
 have k2:=wi ((at' :Int)+1);have hA:=qA w gb cb l at' hB eQ;have eD:=tM w (aU #[aI ⟨#[108,111,111,112]⟩] 9) (aU #[aI ⟨#[108,111,111,112]⟩] 9);unfold mF;obtain⟨g,cap,rfl,lU,Nr,p0,p1,pf⟩:=hr.last;have j0:aF.wrap (((r0.length+1:Nat):Int)-1)=(r0.length:Int):=wj;have j1:(0:Int)<=(r0.length:Int):=by omega
 have j2:(r0.length:Int)<=(cap:Int):=by omega
 have j3:(r0.length:Int)<((r0.length+1:Nat):Int):=by omega
 have hN:N.rounds m l at' [108,111,111,112] (r0++[p])=(m,at' +1,r0,0):=by
  unfold N.rounds;rw[List.getLast?_concat,List.dropLast_concat];exact Eq.trans (b:=if wrap64 (p.2+1)<p.1 then(m,N.fV l N.iR [N.eK] at' 0,r0++[(p.1,wrap64 (p.2+1))],(0:Int)) else(m,at' +1,r0,0)) rfl (dL GR)
 rw[hN];generalize N.ahead l at' N.iR [N.eK] [N.eK]=jj at*;have HA:=bE hA;have hci:dQ (wrap64 (p.2+1)):=⟨by unfold wrap64;omega,by unfold wrap64;omega⟩
 have rF:=hr.below eD;obtain⟨g',mT,Vh,_,MM,x0,x1,xf⟩:=rF.last;have Vd:g' =g:=by
  have:=eM Vh;injection this with this;injection this with this _;exact this.symm
 subst Vd;have Gr:=rF.set hci;have oK:vH rb vA vS vR (aJ (aE ⟨g',0,aC⟩) (r0.length+1) cap) bs m w (((w.alloc (aU #[aI ⟨#[108,111,111,112]⟩] 9)).alloc (aU #[aI ⟨#[108,111,111,112]⟩] 9)).setCell ⟨g',r0.length*2+1,aC⟩ (aH aF (wrap64 (p.2+1)))):=⟨vA,vS,vR,(h.below eD).setR MM,Mv.setCell (Mv.dS eD _) (.inl (.inr rfl)) _,dG.refl _ _⟩
 have y0:(((w.alloc (aU #[aI ⟨#[108,111,111,112]⟩] 9)).alloc (aU #[aI ⟨#[108,111,111,112]⟩] 9)).setCell ⟨g',r0.length*2+1,aC⟩ (aH aF (wrap64 (p.2+1)))).cell? ⟨g',r0.length*2,aC⟩=aE (aH aF p.1):=by
  obtain⟨g2,_,En,_,_,z0,_,_⟩:=Gr.last;have:=eM En;injection this with this;injection this with this _;rw[<-this] at z0;exact z0
 have y1:(((w.alloc (aU #[aI ⟨#[108,111,111,112]⟩] 9)).alloc (aU #[aI ⟨#[108,111,111,112]⟩] 9)).setCell ⟨g',r0.length*2+1,aC⟩ (aH aF (wrap64 (p.2+1)))).cell? ⟨g',r0.length*2+1,aC⟩=aE (aH aF (wrap64 (p.2+1))):=by
  obtain⟨g2,_,En,_,_,_,z1,_⟩:=Gr.last;have:=eM En;injection this with this;injection this with this _;rw[<-this] at z1;exact z1
 have iw:aF.wrap (p.2+1)=wrap64 (p.2+1):=by rw[IntKind.wrap_i64,wrap64]
 have HG:=bE (bK oK Gr.pop);clear hA h hB kD eO hr rF hN eQ hlen xH lU Nr MM p0 p1 pf eD oK Gr Vh;obtain⟨pa,pb⟩:=p;simp only at*;generalize wrap64 (pb+1)=cc at*;have ff:=xf (r0.length*2+1);clear xf;generalize r0.length=k at*;generalize xI:k+1=kk at*;clear xI;generalize l.length=n at*;go_enter func98,ntmps98;go_wp2_with fail
 refine(aN HA).mono ?_;rintro e iF ⟨rfl,mG⟩;subst iF;go_wp2;go_region_held3 (λw' =>w'.cell? ⟨g',k*2,aC⟩=aE (aH aF pa)/\w'.cell? ⟨g',k*2+1,aC⟩=aE (aH aF cc)) (first|exact⟨y0,y1⟩|go_keep) (fail)
 go_wp2;go_region_held3 (λw' =>True) (first|trivial|go_keep) (fail)
 go_wp2
 go_ret3
 exact⟨_,rfl,(aN HG).1.then (bF _ _).drew.drew,λ_=>(aN HG).2.below (bF _ _).drew.drew⟩
theorem Kb (w:aY)(rb:Nat)(vA vS vR:aG)(bs:List aG)(m:N.cE)(gb cb:Nat)(l:List N.Cell)(at' :Nat)(c:N.Cell)(B:Nat)(vr:aG)(r:List (Int×Int))(h:cH w rb vA vS vR bs m)(hB:iJ w gb l)(kD:l[at']?=aE c)(eO:c.name=[100,111])(hr:fH w B vr r)(xH:r.length<=1000)(hS:m.S.length<2):mF w rb vA vS vR bs m gb cb l at' [100,111] B vr r:=by
 have eQ:at' < l.length:=(bI.1 kD).1;have hlen:=hB.len;obtain⟨_,_,q2⟩:=hB.cells at' c kD;rw[eO] at q2;have q2:w.cell? ⟨gb,at' *3+2,aC⟩=aE (aI ⟨#[100,111]⟩):=q2;have Hf:=fW hB.blk;have k1:(at' :Int)<(l.length:Int):=by omega
 have k0:(0:Int)<=(at' :Int):=by omega
 have k2:=wi ((at' :Int)+1);have hA:=qA w gb cb l at' hB eQ;have eD:=tM w (aU #[aI ⟨#[108,111,111,112]⟩] 9) (aU #[aI ⟨#[108,111,111,112]⟩] 9);unfold mF;obtain⟨ar,cr,rfl,hcr⟩:=hr.slice;obtain⟨aS,cS,rfl,_,_⟩:=cU h.st;have c1:=cq 1 h.mc rfl;have Mc:=cC h.mc;have hN:N.rounds m l at' [100,111] r=(m,0,[],6):=by
  unfold N.rounds;exact eJ hS
 rw[hN];generalize N.ahead l at' N.iR [N.eK] [N.eK]=jj at*;have HA:=bE hA;have HR:=bE (dP.wide (dP.stay h eD) (aJ ar r.length cr));have s1:(m.S.length:Int)<2:=by omega
 clear hA h hB kD eO hr hN eQ hlen eD hS;generalize m.S.length=ns at*;have jr:=wi ((r.length:Int)-1);clear xH hcr;generalize r.length=k at*;generalize l.length=n at*;go_enter func98,ntmps98;go_wp2_with fail
 refine(aN HA).mono ?_;rintro e iF ⟨rfl,mG⟩;subst iF;go_wp2
 go_ret3
 exact⟨_,rfl,aN HR,λh=>by cases h⟩
theorem Ni (w:aY)(rb:Nat)(vA vS vR:aG)(bs:List aG)(m:N.cE)(gb cb:Nat)(l:List N.Cell)(at' :Nat)(c:N.Cell)(B:Nat)(vr:aG)(r:List (Int×Int))(h:cH w rb vA vS vR bs m)(hB:iJ w gb l)(kD:l[at']?=aE c)(eO:c.name=[100,111])(hr:fH w B vr r)(xH:r.length<=1000)(hBw:B<=w.heap.size)(S0:List Int)(uH st:Int)(hS:m.S=S0++[uH,st])(DX:uH<=st):mF w rb vA vS vR bs m gb cb l at' [100,111] B vr r:=by
 have eQ:at' < l.length:=(bI.1 kD).1;have hlen:=hB.len;obtain⟨_,_,q2⟩:=hB.cells at' c kD;rw[eO] at q2;have q2:w.cell? ⟨gb,at' *3+2,aC⟩=aE (aI ⟨#[100,111]⟩):=q2;have Hf:=fW hB.blk;have k1:(at' :Int)<(l.length:Int):=by omega
 have k0:(0:Int)<=(at' :Int):=by omega
 have k2:=wi ((at' :Int)+1);have hA:=qA w gb cb l at' hB eQ;have eD:=tM w (aU #[aI ⟨#[108,111,111,112]⟩] 9) (aU #[aI ⟨#[108,111,111,112]⟩] 9);unfold mF;obtain⟨ar,cr,rfl,hcr⟩:=hr.slice;have r6:m.S.length=S0.length+2:=by rw[hS];simp
 have jT:m.S.getD (m.S.length-1) 0=st:=by rw[r6,hS,show S0.length+2-1=S0.length+1 by omega];simp[List.getD]
 have hli:m.S.getD (m.S.length-2) 0=uH:=by rw[r6,hS,show S0.length+2-2=S0.length by omega];simp[List.getD]
 have Iz:m.S.take (m.S.length-2)=S0:=by rw[r6,hS,show S0.length+2-2=S0.length by omega];simp
 have hii:dQ uH/\dQ st:=⟨h.si uH (by rw[hS];simp),h.si st (by rw[hS];simp)⟩
 have hN:N.rounds m l at' [100,111] r=({m with S:=S0},N.ahead l at' N.iR [N.eK] [N.eK],r,0):=by
  unfold N.rounds;rw[jT,hli,Iz];refine Eq.trans (dL (by omega:¬m.S.length<2)) ?_;exact eJ DX
 rw[hN];generalize N.ahead l at' N.iR [N.eK] [N.eK]=jj at*;have HA:=bE hA;have Sz:=mR ((w.alloc (aU #[aI ⟨#[108,111,111,112]⟩] 9)).alloc (aU #[aI ⟨#[108,111,111,112]⟩] 9)) rb vA vS vR bs m (h.below eD);have oM:N.pop m=aE ({m with S:=S0++[uH]},st):=by
  have e1:m.S=(S0++[uH])++[st]:=by rw[hS];simp
  unfold N.pop;rw[e1];simp
 have e2:jK m=st:=by unfold jK;rw[oM]
 have e3:iK m={m with S:=S0++[uH]}:=by unfold iK;rw[oM]
 rw[e2,e3,dL (by rw[hS];simp)] at Sz;have HP1:=bE Sz;have Dq:∀w3,dP rb vA vS vR bs {m with S:=S0++[uH]} ((w.alloc (aU #[aI ⟨#[108,111,111,112]⟩] 9)).alloc (aU #[aI ⟨#[108,111,111,112]⟩] 9)) w3->bH aQ 73 #[aK (aE ⟨rb,0,aC⟩)] w3 λe w4=>e=aM (bC #[aH aF uH,aH aF 0])/\vH rb vA vS vR (aJ ar r.length cr) bs {m with S:=S0} w w4/\fH w4 B (aJ ar r.length cr) r/\B<=w4.heap.size:=λw3 hg=>by
  obtain⟨yA,yS,yR,g1,g2,g3⟩:=hg;have Dq:=mR w3 rb yA yS yR bs _ g1;have US:N.pop {m with S:=S0++[uH]}=aE ({m with S:=S0},uH):=by unfold N.pop;simp
  have e2:jK {m with S:=S0++[uH]}=uH:=by unfold jK;rw[US]
  have e3:iK {m with S:=S0++[uH]}={m with S:=S0}:=by unfold iK;rw[US]
  rw[e2,e3,dL (by simp)] at Dq;refine Dq.mono λe w4 hh=>⟨hh.1,?_⟩
  have pS:=dP.trans g2 g3 hh.2;have hsz:B<=w4.heap.size:=by
   obtain⟨_,_,_,_,pL,_⟩:=dP.after eD pS;have:=pL.size;omega
  refine⟨(dP.after eD pS).wide _,?_,hsz⟩;obtain⟨_,_,_,_,pL,_⟩:=pS;exact(hr.below eD).mv (h.below eD) pL
 have HP2:=bE Dq;obtain⟨aS,cS,rfl,_,_⟩:=cU h.st;have c1:=cq 1 h.mc rfl;have Mc:=cC h.mc;have s1:¬(m.S.length:Int)<2:=by omega
 clear hA h hB kD eO hr hN eQ hlen eD hBw hS Sz Dq jT hli Iz r6 oM e2 e3;generalize m.S.length=ns at*;have jr:=wi ((r.length:Int)-1);clear xH hcr hii;generalize r.length=k at*;generalize l.length=n at*;go_enter func98,ntmps98;go_wp2_with fail
 refine(aN HA).mono ?_;rintro e iF ⟨rfl,mG⟩;subst iF;go_wp2_with fail
 refine(aN HP1).mono ?_;rintro e w3 ⟨rfl,R9⟩;have HG3:=bE R9;clear R9;go_wp2_with fail
 refine(aN HP2 w3 (aN HG3)).mono ?_;rintro e w4 ⟨rfl,MU,TC,hB4⟩;have HG:=bE (bK MU (bK TC hB4));clear MU TC hB4;go_wp2
 go_ret3
 exact⟨_,rfl,(aN HG).1,λ_=>(aN HG).2.1⟩
theorem Mt (w:aY)(rb:Nat)(vA vS vR:aG)(bs:List aG)(m:N.cE)(gb cb:Nat)(l:List N.Cell)(at' :Nat)(c:N.Cell)(B:Nat)(vr:aG)(r:List (Int×Int))(h:cH w rb vA vS vR bs m)(hB:iJ w gb l)(kD:l[at']?=aE c)(eO:c.name=[100,111])(hr:fH w B vr r)(xH:r.length<=1000)(hBw:B<=w.heap.size)(S0:List Int)(uH st:Int)(hS:m.S=S0++[uH,st])(DX:¬uH<=st):mF w rb vA vS vR bs m gb cb l at' [100,111] B vr r:=by
 have eQ:at' < l.length:=(bI.1 kD).1;have hlen:=hB.len;obtain⟨_,_,q2⟩:=hB.cells at' c kD;rw[eO] at q2;have q2:w.cell? ⟨gb,at' *3+2,aC⟩=aE (aI ⟨#[100,111]⟩):=q2;have Hf:=fW hB.blk;have k1:(at' :Int)<(l.length:Int):=by omega
 have k0:(0:Int)<=(at' :Int):=by omega
 have k2:=wi ((at' :Int)+1);have hA:=qA w gb cb l at' hB eQ;have eD:=tM w (aU #[aI ⟨#[108,111,111,112]⟩] 9) (aU #[aI ⟨#[108,111,111,112]⟩] 9);unfold mF;obtain⟨ar,cr,rfl,hcr⟩:=hr.slice;have r6:m.S.length=S0.length+2:=by rw[hS];simp
 have jT:m.S.getD (m.S.length-1) 0=st:=by rw[r6,hS,show S0.length+2-1=S0.length+1 by omega];simp[List.getD]
 have hli:m.S.getD (m.S.length-2) 0=uH:=by rw[r6,hS,show S0.length+2-2=S0.length by omega];simp[List.getD]
 have Iz:m.S.take (m.S.length-2)=S0:=by rw[r6,hS,show S0.length+2-2=S0.length by omega];simp
 have hii:dQ uH/\dQ st:=⟨h.si uH (by rw[hS];simp),h.si st (by rw[hS];simp)⟩
 have hN:N.rounds m l at' [100,111] r=({m with S:=S0},at' +1,r++[(uH,st)],0):=by
  unfold N.rounds;rw[jT,hli,Iz];refine Eq.trans (dL (by omega:¬m.S.length<2)) ?_;exact dL DX
 rw[hN];generalize N.ahead l at' N.iR [N.eK] [N.eK]=jj at*;have HA:=bE hA;have Sz:=mR ((w.alloc (aU #[aI ⟨#[108,111,111,112]⟩] 9)).alloc (aU #[aI ⟨#[108,111,111,112]⟩] 9)) rb vA vS vR bs m (h.below eD);have oM:N.pop m=aE ({m with S:=S0++[uH]},st):=by
  have e1:m.S=(S0++[uH])++[st]:=by rw[hS];simp
  unfold N.pop;rw[e1];simp
 have e2:jK m=st:=by unfold jK;rw[oM]
 have e3:iK m={m with S:=S0++[uH]}:=by unfold iK;rw[oM]
 rw[e2,e3,dL (by rw[hS];simp)] at Sz;have HP1:=bE Sz;have Dq:∀w3,dP rb vA vS vR bs {m with S:=S0++[uH]} ((w.alloc (aU #[aI ⟨#[108,111,111,112]⟩] 9)).alloc (aU #[aI ⟨#[108,111,111,112]⟩] 9)) w3->bH aQ 73 #[aK (aE ⟨rb,0,aC⟩)] w3 λe w4=>e=aM (bC #[aH aF uH,aH aF 0])/\vH rb vA vS vR (aJ ar r.length cr) bs {m with S:=S0} w w4/\fH w4 B (aJ ar r.length cr) r/\B<=w4.heap.size:=λw3 hg=>by
  obtain⟨yA,yS,yR,g1,g2,g3⟩:=hg;have Dq:=mR w3 rb yA yS yR bs _ g1;have US:N.pop {m with S:=S0++[uH]}=aE ({m with S:=S0},uH):=by unfold N.pop;simp
  have e2:jK {m with S:=S0++[uH]}=uH:=by unfold jK;rw[US]
  have e3:iK {m with S:=S0++[uH]}={m with S:=S0}:=by unfold iK;rw[US]
  rw[e2,e3,dL (by simp)] at Dq;refine Dq.mono λe w4 hh=>⟨hh.1,?_⟩
  have pS:=dP.trans g2 g3 hh.2;have hsz:B<=w4.heap.size:=by
   obtain⟨_,_,_,_,pL,_⟩:=dP.after eD pS;have:=pL.size;omega
  refine⟨(dP.after eD pS).wide _,?_,hsz⟩;obtain⟨_,_,_,_,pL,_⟩:=pS;exact(hr.below eD).mv (h.below eD) pL
 have HP2:=bE Dq;obtain⟨aS,cS,rfl,_,_⟩:=cU h.st;have c1:=cq 1 h.mc rfl;have Mc:=cC h.mc;have s1:¬(m.S.length:Int)<2:=by omega
 clear hA h hB kD eO hr hN eQ hlen eD hBw hS Sz Dq jT hli Iz r6 oM e2 e3;generalize m.S.length=ns at*;have jr:=wi ((r.length:Int)-1);obtain⟨iL,hi,hz,hs,jP⟩:=KX;generalize l.length=n at*;go_enter func98,ntmps98;go_wp2_with fail
 refine(aN HA).mono ?_;rintro e iF ⟨rfl,mG⟩;subst iF;go_wp2_with fail
 refine(aN HP1).mono ?_;rintro e w3 ⟨rfl,R9⟩;have HG3:=bE R9;clear R9;go_wp2_with fail
 refine(aN HP2 w3 (aN HG3)).mono ?_;rintro e w4 ⟨rfl,MU,TC,hB4⟩;have HG:=bE (bK MU (bK TC hB4));clear MU TC hB4;have eY:(w4.alloc (aU #[aH aF uH,aH aF st] 191)).heap[w4.heap.size]?=aE (aU #[aH aF uH,aH aF st] 191):=heap_alloc_new w4 _;go_wp2_with (
  at_builtin
  refine wpList_append_lies _ (by rfl) (.tmp 55) (.tmp 59) 166 (by rfl) B 191 iL (bM #[aH aF 0,aH aF 0]) 2 16 underlying166 hi hz hs jP rfl (by decide) (aJ ar r.length cr) r.length (pY r) (by rfl) (by exact(aN HG).2.1.row.alloc _) ⟨w4.heap.size,0,aC⟩ 1 1 [aH aF uH,aH aF st] (by rfl) rfl (aY.news_of_block eY) (λu hu=>by simp at hu;rcases hu with rfl|rfl <;> rfl) (by decide) (by unfold maxLen;omega) (by omega) (by have:=(aN HG).2.2;simp;omega) _ rfl ?_;intro g3 iG w5 jM dK qH Cc;have G3:=bE dK;have O3:=bE jM;clear dK jM qH)
 go_ret3
 have t8:bA w4.heap.size w4 (w4.alloc (aU #[aH aF uH,aH aF st] 191)):=(bF _ _).alloc (bD _) _;refine⟨_,rfl,vH.grown (aN HG).1 (aN HG).2.1 t8 (aN G3),λ_=>⟨?_,λq hq=>?_⟩⟩
 ·show aY.ownsRow _ _ _ _ _ (r++[(uH,st)]).length (pY (r++[(uH,st)]));rw[pA,bN];exact aN O3
 ·rcases List.mem_append.1 hq with hq|hq
  ·exact(aN HG).2.1.ri q hq
  ·rw[dE] at hq;subst hq;exact hii
theorem J7 (w:aY)(rb:Nat)(vA vS vR:aG)(bs:List aG)(m:N.cE)(gb cb:Nat)(l:List N.Cell)(at' :Nat)(c:N.Cell)(B:Nat)(vr:aG)(r:List (Int×Int))(h:cH w rb vA vS vR bs m)(hB:iJ w gb l)(kD:l[at']?=aE c)(eO:c.name=N.iR\/((c.name=N.eK\/c.name=N.wI\/c.name=N.fD)/\r≠[]))(hr:fH w B vr r)(xH:r.length<=1000)(hBw:B<=w.heap.size):mF w rb vA vS vR bs m gb cb l at' c.name B vr r:=by
 rcases eO with e|⟨e,jD⟩
 ·rw[e];by_cases hS:m.S.length<2
  ·exact Kb w rb vA vS vR bs m gb cb l at' c B vr r h hB kD e hr xH hS
  ·obtain⟨S0,uH,st,bz⟩:∃S0 uH st,m.S=S0++[uH,st]:=by
    obtain⟨rest,t,h1,h2⟩:=iT m.S 2 hS
    match t,h2 with
    |[a,b],_=>exact⟨rest,a,b,h1⟩
   by_cases DX:uH<=st
   ·exact Ni w rb vA vS vR bs m gb cb l at' c B vr r h hB kD e hr xH hBw S0 uH st bz DX
   ·exact Mt w rb vA vS vR bs m gb cb l at' c B vr r h hB kD e hr xH hBw S0 uH st bz DX
 ·rcases List.eq_nil_or_concat r with h0|⟨r0,p,hp⟩
  ·exact(jD h0).elim
  have hp:r=r0++[p]:=by simpa using hp
  subst hp;have VM:r0.length<=1000:=by rw[bN] at xH;omega
  rcases e with e|e|e
  ·rw[e];by_cases GR:wrap64 (p.2+1)<p.1
   ·exact Nf w rb vA vS vR bs m gb cb l at' c B vr r0 p h hB kD e hr VM GR
   ·exact Kf w rb vA vS vR bs m gb cb l at' c B vr r0 p h hB kD e hr VM GR
  ·rw[e];exact JJ w rb vA vS vR bs m gb cb l at' c B vr r0 p h hB kD e hr VM
  ·rw[e];exact Tx w rb vA vS vR bs m gb cb l at' c B vr r0 p h hB kD e hr VM
end
end Go.Proofs.YtgnlokmeohffaaaGreatDoor
